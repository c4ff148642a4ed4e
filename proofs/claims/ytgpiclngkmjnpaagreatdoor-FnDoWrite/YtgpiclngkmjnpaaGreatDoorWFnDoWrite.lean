/-
  The walk of laws.FnDoWrite.
-/
import Derived.Test.YtgpiclngkmjnpaaGreatDoorLdM
namespace Go.Proofs.YtgpiclngkmjnpaaGreatDoor
open Go.RowKit
set_option maxRecDepth 100000
set_option linter.unusedVariables false

set_option maxHeartbeats 16000000 in
theorem walk_FnDoWrite (a0 : Option Addr) (len0 cap0 : Nat) (z0 : List Int) (w : World) (hKF : KF w) (hET : ET w) (w0 : IsRow .u8 w a0 len0 cap0 z0) :
    Calls Tryz.prog 7 #[.slice a0 len0 cap0] w fun e w' => e = .returned (.bool true) ∧ Below w.heap.size w w' := by
  by_cases g0 : (1048576 : Int) < (len0 : Int)
  · go_enter Tryz.func7, Tryz.ntmps7
    go_wp2
    go_ret
    exact ⟨rfl, Below.refl _ _⟩
  have W0 := Lib.hid w0
  have HF := Lib.hid hKF
  have HE := Lib.hid hET
  clear w0 hKF hET
  go_enter Tryz.func7, Tryz.ntmps7
  go_wp2_with fail
  refine (drawCD_any a0 len0 cap0 z0 _ W0.out).mono ?_
  rintro e y0 ⟨g, c, l, q, rfl, hT, l3, l8, hzs, hb⟩
  have K0 := Lib.hid ((Kn.start hb).new 25 (C5.cs q))
  have T0 := Lib.hid (hT.stay ((Below.refl _ _).alloc (Nat.le_refl _) (.cells (C5.cs q) 25)))
  have HZS := Lib.hid hzs
  have hz : l.length ≤ 1048576 := by omega
  clear W0 hb hT hzs
  obtain ⟨x, ans, hv⟩ : ∃ x ans, callV l q = (x, ans) := ⟨_, _, rfl⟩
  have HV := Lib.hid hv
  have HSX := Lib.hid (call_sm hv)
  clear hv
  go_wp2_with fail
  refine (specDo_val (s := ⟨some ⟨g, 0, none⟩, l.length, c⟩) HV.out _ T0.out hz HZS.out).mono ?_
  rintro e y1 ⟨s1, ts1, rfl, t1, hm1, hb⟩
  have K1 := Lib.hid (K0.out.stay hb)
  have T1 := Lib.hid (T0.out.stay hb)
  have X1 := Lib.hid (show HasT y1 s1 x from hm1 ▸ t1.hasT)
  clear hb t1 hm1 K0 T0
  have c0 := K1.out.c (b := y0.heap.size) (T := 25) (vs := C5.cs q) (by simp) 0 _ rfl
  have c1 := K1.out.c (b := y0.heap.size) (T := 25) (vs := C5.cs q) (by simp) 1 _ rfl
  have c2 := K1.out.c (b := y0.heap.size) (T := 25) (vs := C5.cs q) (by simp) 2 _ rfl
  have c3 := K1.out.c (b := y0.heap.size) (T := 25) (vs := C5.cs q) (by simp) 3 _ rfl
  have c4 := K1.out.c (b := y0.heap.size) (T := 25) (vs := C5.cs q) (by simp) 4 _ rfl
  go_wp2_with fail
  refine (implDo_val (s := ⟨some ⟨g, 0, none⟩, l.length, c⟩) HV.out _ T1.out (HF.out.stay K1.out.1) (HE.out.stay K1.out.1) hz).mono ?_
  rintro e y2 ⟨s2, ts2, rfl, t2, hm2, hb⟩
  have K2 := Lib.hid (K1.out.stay hb)
  have T2 := Lib.hid (T1.out.stay hb)
  have X2 := Lib.hid (X1.out.stay hb)
  have P2 := Lib.hid (show HasT y2 s2 x from hm2 ▸ t2.hasT)
  have HA2 := Lib.hid (show 0 < x.length → ∃ gx, s2.a = some ⟨gx, 0, none⟩ from fun h => by
    obtain ⟨gx, cur, e, -⟩ := t2.1.form (by have := congrArg List.length hm2; simp at this; omega)
    exact ⟨gx, e⟩)
  clear hb t2 hm2 K1 T1 X1 c0 c1 c2 c3 c4
  go_wp2_with fail
  refine (ldTable_same x s2 s1 _ P2.out X2.out HSX.out.1 HSX.out.2).mono ?_
  rintro e y3 ⟨rfl, hb⟩
  have K3 := Lib.hid (K2.out.stay hb)
  have T3 := Lib.hid (T2.out.stay hb)
  have X3 := Lib.hid (X2.out.stay hb)
  have P3 := Lib.hid (P2.out.stay hb)
  clear hb K2 T2 X2 P2
  have c0 := K3.out.c (b := y0.heap.size) (T := 25) (vs := C5.cs q) (by simp) 0 _ rfl
  have c1 := K3.out.c (b := y0.heap.size) (T := 25) (vs := C5.cs q) (by simp) 1 _ rfl
  have c2 := K3.out.c (b := y0.heap.size) (T := 25) (vs := C5.cs q) (by simp) 2 _ rfl
  have c3 := K3.out.c (b := y0.heap.size) (T := 25) (vs := C5.cs q) (by simp) 3 _ rfl
  have c4 := K3.out.c (b := y0.heap.size) (T := 25) (vs := C5.cs q) (by simp) 4 _ rfl
  go_wp2_with fail
  refine (ldCan_any l g l.length c q _ T3.out rfl (HF.out.stay K3.out.1) hz).mono ?_
  rintro e y4 ⟨v, rfl, hv, hb⟩
  have HVV := Lib.hid hv
  have K4 := Lib.hid (K3.out.stay hb)
  have T4 := Lib.hid (T3.out.stay hb)
  have X4 := Lib.hid (X3.out.stay hb)
  have P4 := Lib.hid (P3.out.stay hb)
  clear hb hv K3 T3 X3 P3 c0 c1 c2 c3 c4
  cases v
  · go_wp2_with fail
    refine (ldTable_same x s2 s1 _ P4.out X4.out HSX.out.1 HSX.out.2).mono ?_
    rintro e y5 ⟨rfl, hb⟩
    have HB := Lib.hid (K4.out.stay hb).1
    clear hb
    go_wp2
    go_ret
    exact ⟨rfl, HB.out⟩
  have HO := Lib.hid (HVV.out.1 rfl)
  have HXA := Lib.hid (show x = (doV l q).1 ∧ ans = (doV l q).2 by
    have := HV.out
    rw [callV_ok HO.out] at this
    rw [this]; exact ⟨rfl, rfl⟩)
  have hxl : x.length = l.length := by rw [HXA.out.1, do_len]
  obtain ⟨gx, hs2⟩ := HA2.out (by omega)
  have hsn : s2.n = l.length := by rw [P4.out.1, hxl]
  have HXL := Lib.hid hxl
  obtain ⟨s2a, s2n, cx⟩ := s2
  dsimp only at hs2 hsn
  subst hs2 hsn
  obtain ⟨jr, hjr, hcr, hth, hkr⟩ := HO.out.run
  have hbd := C5.bd HO.out.2
  obtain ⟨ck, cr, ca, cbb, cn⟩ := q
  dsimp only at *
  subst hcr
  obtain ⟨ja, rfl⟩ : ∃ ja : Nat, ca = ja := ⟨ca.toNat, by omega⟩
  obtain ⟨jb, rfl⟩ : ∃ jb : Nat, cbb = jb := ⟨cbb.toNat, by omega⟩
  have hja : ja < 4 := by omega
  have hjb : jb < 4 := by omega
  have hjr' : (jr : Int) < (l.length : Int) := by omega
  have hja' : (ja : Int) < 4 := by omega
  have hjb' : (jb : Int) < 4 := by omega
  have wr : wrap64 ((jr : Int) + 1 - 1) = (jr : Int) := by unfold wrap64; omega
  have wr2 : IntKind.i64.wrap (jr : Int) = (jr : Int) := IntWalk.i64_in _ (by omega)
  have HBD := Lib.hid hbd
  have HTH := Lib.hid hth
  have HKR := Lib.hid hkr
  clear hbd hth hkr hxl HA2 HV HVV X4 HZS
  have c0 := K4.out.c (b := y0.heap.size) (T := 25) (vs := C5.cs ⟨ck, (jr : Int) + 1, (ja : Int), (jb : Int), cn⟩) (by simp) 0 _ rfl
  have c1 := K4.out.c (b := y0.heap.size) (T := 25) (vs := C5.cs ⟨ck, (jr : Int) + 1, (ja : Int), (jb : Int), cn⟩) (by simp) 1 _ rfl
  have c2 := K4.out.c (b := y0.heap.size) (T := 25) (vs := C5.cs ⟨ck, (jr : Int) + 1, (ja : Int), (jb : Int), cn⟩) (by simp) 2 _ rfl
  have c3 := K4.out.c (b := y0.heap.size) (T := 25) (vs := C5.cs ⟨ck, (jr : Int) + 1, (ja : Int), (jb : Int), cn⟩) (by simp) 3 _ rfl
  have c4 := K4.out.c (b := y0.heap.size) (T := 25) (vs := C5.cs ⟨ck, (jr : Int) + 1, (ja : Int), (jb : Int), cn⟩) (by simp) 4 _ rfl
  by_cases hk1 : ¬ ck = 2
  · have hk1' : (ck == 2) = false := by simpa using hk1
    have hk1'' : (ck != 2) = true := by simpa using hk1
    clear hk1
    go_wp2
    go_ret
    exact ⟨rfl, K4.out.1⟩
  obtain rfl : ck = 2 := Classical.not_not.1 hk1
  clear hk1
  by_cases hneg : ans < 0
  · go_wp2
    go_ret
    exact ⟨rfl, K4.out.1⟩
  have hans0 : 0 ≤ ans := by omega
  have h0 := pass_of HO.out (by rw [← HXA.out.2]; exact hans0)
  obtain ⟨jo, hjo, hro, hnj⟩ := obj_get HO.out h0 (show (2 : Int) ≠ 3 by decide) hjr rfl
  have hjo' : (jo : Int) < (l.length : Int) := by omega
  have wo : wrap64 ((jo : Int) + 1 - 1) = (jo : Int) := by unfold wrap64; omega
  have wo2 : IntKind.i64.wrap (jo : Int) = (jo : Int) := IntWalk.i64_in _ (by omega)
  have HH0 := Lib.hid h0
  have HRO := Lib.hid hro
  have HNJ := Lib.hid hnj
  clear h0 hro hnj
  obtain ⟨jr1, ja1, hjr1, rb, ro, sc, qs, er1, ea1, -, eth1, hA, hB, -⟩ := slot_at T4.out HO.out.1 HO.out.2
  obtain rfl : jr = jr1 := by dsimp only at er1; omega
  obtain rfl : ja = ja1 := by dsimp only at ea1; omega
  obtain ⟨r, hr⟩ : ∃ r, rOf l ⟨2, (jr : Int) + 1, (ja : Int), (jb : Int), cn⟩ = r := ⟨_, rfl⟩
  have hBr : At y4 rb (ro + ja * 5) r.cs := by rw [← hr]; exact hB
  obtain ⟨rt, rv, rr, rw_, rk⟩ := r
  have HR := Lib.hid hr
  have f5 : y4.cell? ⟨g, jr * 8 + 5, none⟩ = some (.slice (some ⟨rb, ro, none⟩) 4 sc) := hA 5 _ rfl
  have g0' : y4.cell? ⟨rb, ro + ja * 5, none⟩ = some (.int .i64 rt) := hBr 0 _ rfl
  have g1 : y4.cell? ⟨rb, ro + ja * 5 + 1, none⟩ = some (.int .i64 rv) := hBr 1 _ rfl
  have g2 : y4.cell? ⟨rb, ro + ja * 5 + 2, none⟩ = some (.bool rr) := hBr 2 _ rfl
  have g3 : y4.cell? ⟨rb, ro + ja * 5 + 3, none⟩ = some (.bool rw_) := hBr 3 _ rfl
  have g4 : y4.cell? ⟨rb, ro + ja * 5 + 4, none⟩ = some (.bool rk) := hBr 4 _ rfl
  have hbl1 := cell_lt f5
  have hbl2 := cell_lt g0'
  have hbl3 := cell_lt c0
  clear hA hB hBr hr er1 ea1 eth1
  go_upto_region 10 with fail
  go_region
  have K5 := Lib.hid ((K4.out.new 42 (R5.cs ⟨rt, rv, rr, rw_, rk⟩)).drew)
  have B5 := Lib.hid (((Below.refl y4.heap.size y4).alloc (Nat.le_refl _) (.cells (R5.cs ⟨rt, rv, rr, rw_, rk⟩) 42)).drew)
  have T5 := Lib.hid (T4.out.stay B5.out)
  have P5 := Lib.hid (P4.out.stay B5.out)
  obtain ⟨Y, hY⟩ : ∃ Y, (y4.alloc (.cells (R5.cs ⟨rt, rv, rr, rw_, rk⟩) 42)).drew = Y := ⟨_, rfl⟩
  rw [hY] at K5 B5 T5 P5 ⊢
  clear hY K4 T4 P4 f5 g0' g1 g2 g3 g4 c0 c1 c2 c3 c4
  have hrt : rt = (jo : Int) + 1 := by have := HRO.out; rw [HR.out] at this; exact this
  subst hrt
  obtain ⟨ss, qs, hRs, hQs, hAs⟩ := T5.out.cells hjo
  obtain ⟨z, hz'⟩ : ∃ z, l[jo]'hjo = z := ⟨_, rfl⟩
  have HZ := Lib.hid hz'
  rw [hz'] at hRs hQs hAs
  have d0 : Y.cell? ⟨g, jo * 8, none⟩ = some (.int .i64 z.kind) := hAs 0 _ rfl
  have d1 : Y.cell? ⟨g, jo * 8 + 1, none⟩ = some (.int .i64 z.sec) := hAs 1 _ rfl
  have d2 : Y.cell? ⟨g, jo * 8 + 2, none⟩ = some (.int .i64 z.vou) := hAs 2 _ rfl
  have d3 : Y.cell? ⟨g, jo * 8 + 3, none⟩ = some (.int .i64 z.vers) := hAs 3 _ rfl
  have d4 : Y.cell? ⟨g, jo * 8 + 4, none⟩ = some (.int .i64 z.num) := hAs 4 _ rfl
  have d5 : Y.cell? ⟨g, jo * 8 + 5, none⟩ = some (.slice ss.a ss.n ss.c) := hAs 5 _ rfl
  have d6 : Y.cell? ⟨g, jo * 8 + 6, none⟩ = some (.slice qs.a qs.n qs.c) := hAs 6 _ rfl
  have d7 : Y.cell? ⟨g, jo * 8 + 7, none⟩ = some (.int .i64 z.to) := hAs 7 _ rfl
  have r0 := K5.out.c (b := y4.heap.size) (T := 42) (vs := R5.cs ⟨(jo : Int) + 1, rv, rr, rw_, rk⟩) (by simp) 0 _ rfl
  obtain ⟨Y2, hY2⟩ : ∃ Y2, Y.alloc (.cells (T8.cs z ss qs) 37) = Y2 := ⟨_, rfl⟩
  have B6 : Below Y.heap.size Y Y2 := hY2 ▸ (Below.refl _ _).alloc (Nat.le_refl _) _
  have K6 := Lib.hid (show Kn w _ Y2 from hY2 ▸ K5.out.new 37 (T8.cs z ss qs))
  have T6 := Lib.hid (T5.out.stay B6)
  have HB6 := Lib.hid B6
  have HRS := Lib.hid hRs
  have HQS := Lib.hid hQs
  have HB3 := Lib.hid hbl3
  have nb : Y.heap.size ≠ y4.heap.size := by have h1 := K5.out.box (b := y4.heap.size) (T := 42) (vs := R5.cs ⟨(jo : Int) + 1, rv, rr, rw_, rk⟩) (by simp); have h2 := h1.lt; omega
  have NB := Lib.hid nb
  have HWY := Lib.hid K5.out.1.size
  go_upto_region 12 with fail
  try rw [hY2]
  clear hRs hQs hAs d0 d1 d2 d3 d4 d5 d6 d7 r0 hY2 B6 hz' nb hbl1 hbl2 hbl3 K5 T5
  have r0 := K6.out.c (b := y4.heap.size) (T := 42) (vs := R5.cs ⟨(jo : Int) + 1, rv, rr, rw_, rk⟩) (by simp) 0 _ rfl
  have r1 := K6.out.c (b := y4.heap.size) (T := 42) (vs := R5.cs ⟨(jo : Int) + 1, rv, rr, rw_, rk⟩) (by simp) 1 _ rfl
  have r2 := K6.out.c (b := y4.heap.size) (T := 42) (vs := R5.cs ⟨(jo : Int) + 1, rv, rr, rw_, rk⟩) (by simp) 2 _ rfl
  have r3 := K6.out.c (b := y4.heap.size) (T := 42) (vs := R5.cs ⟨(jo : Int) + 1, rv, rr, rw_, rk⟩) (by simp) 3 _ rfl
  have r4 := K6.out.c (b := y4.heap.size) (T := 42) (vs := R5.cs ⟨(jo : Int) + 1, rv, rr, rw_, rk⟩) (by simp) 4 _ rfl
  obtain ⟨lv, hlv⟩ : ∃ lv, liveB l ⟨(jo : Int) + 1, rv, rr, rw_, rk⟩ = lv := ⟨_, rfl⟩
  have HLV := Lib.hid (show tabLive l ⟨(jo : Int) + 1, rv, rr, rw_, rk⟩ = lv by rw [← HR.out, liveB_tab HO.out, HR.out]; exact hlv)
  have HLB := Lib.hid (show liveB l (rOf l ⟨2, (jr : Int) + 1, (ja : Int), (jb : Int), cn⟩) = lv by rw [HR.out]; exact hlv)
  clear hlv
  go_wp2_with fail
  refine (implTabLive_val' (s := ⟨some ⟨g, 0, none⟩, l.length, c⟩) (r := ⟨(jo : Int) + 1, rv, rr, rw_, rk⟩) HLV.out _ T6.out (HF.out.stay K6.out.1) hz).mono ?_
  rintro e y7 ⟨rfl, hb⟩
  have K7 := Lib.hid (K6.out.stay hb)
  have T7 := Lib.hid (T6.out.stay hb)
  have HBY := Lib.hid hb
  clear hb
  clear r0 r1 r2 r3 r4
  have HDW := Lib.hid (show ans = 0 ∧ x[jo]'(by rw [HXL.out]; exact hjo) = if lv then { z with num := cn } else z by
    have h1 := do_write HO.out rfl (by rw [← HXA.out.2]; exact hans0) hjo (by rw [HR.out])
    rw [HLB.out, HZ.out] at h1
    refine ⟨HXA.out.2.trans h1.1, ?_⟩
    rw [get_of HXA.out.1 (i := jo) (by rw [HXL.out]; exact hjo)]
    exact h1.2)
  have ha0 := HDW.out.1
  subst ha0
  have HB7 := Lib.hid (show Below Y.heap.size Y y7 from HB6.out.trans (HBY.out.mono HB6.out.size))
  have HSZ := Lib.hid (get_set_sm (fun i hi => by have := (tab_small HO.out.tab).2 i hi; omega) hjo HZ.out)
  cases lv
  · have hxz := HDW.out.2
    rw [if_neg (by decide)] at hxz
    have HZB := Lib.hid (K7.out.box (b := Y.heap.size) (T := 37) (vs := T8.cs z ss qs) (by simp))
    have HRB := Lib.hid (K7.out.box (b := y4.heap.size) (T := 42) (vs := R5.cs ⟨(jo : Int) + 1, rv, rr, rw_, rk⟩) (by simp))
    obtain ⟨sx, qx, hRx, hQx, hAx⟩ := (P5.out.stay HB7.out).cells (i := jo) (by rw [HXL.out]; exact hjo)
    rw [hxz] at hRx hQx hAx
    have HRX := Lib.hid hRx
    have HQX := Lib.hid hQx
    have HRS2 := Lib.hid (HRS.out.stay HB7.out)
    have HQS2 := Lib.hid (HQS.out.stay HB7.out)
    have e0 : y7.cell? ⟨gx, jo * 8, none⟩ = some (.int .i64 z.kind) := hAx 0 _ rfl
    have e1 : y7.cell? ⟨gx, jo * 8 + 1, none⟩ = some (.int .i64 z.sec) := hAx 1 _ rfl
    have e2 : y7.cell? ⟨gx, jo * 8 + 2, none⟩ = some (.int .i64 z.vou) := hAx 2 _ rfl
    have e3 : y7.cell? ⟨gx, jo * 8 + 3, none⟩ = some (.int .i64 z.vers) := hAx 3 _ rfl
    have e4 : y7.cell? ⟨gx, jo * 8 + 4, none⟩ = some (.int .i64 z.num) := hAx 4 _ rfl
    have e5 : y7.cell? ⟨gx, jo * 8 + 5, none⟩ = some (.slice sx.a sx.n sx.c) := hAx 5 _ rfl
    have e6 : y7.cell? ⟨gx, jo * 8 + 6, none⟩ = some (.slice qx.a qx.n qx.c) := hAx 6 _ rfl
    have e7 : y7.cell? ⟨gx, jo * 8 + 7, none⟩ = some (.int .i64 z.to) := hAx 7 _ rfl
    have k0 : y7.cell? ⟨Y.heap.size, 0, none⟩ = some (.int .i64 z.kind) := HZB.out.cell 0 _ rfl
    have k1 : y7.cell? ⟨Y.heap.size, 1, none⟩ = some (.int .i64 z.sec) := HZB.out.cell 1 _ rfl
    have k2 : y7.cell? ⟨Y.heap.size, 2, none⟩ = some (.int .i64 z.vou) := HZB.out.cell 2 _ rfl
    have k3 : y7.cell? ⟨Y.heap.size, 3, none⟩ = some (.int .i64 z.vers) := HZB.out.cell 3 _ rfl
    have k4 : y7.cell? ⟨Y.heap.size, 4, none⟩ = some (.int .i64 z.num) := HZB.out.cell 4 _ rfl
    have k5 : y7.cell? ⟨Y.heap.size, 5, none⟩ = some (.slice ss.a ss.n ss.c) := HZB.out.cell 5 _ rfl
    have k6 : y7.cell? ⟨Y.heap.size, 6, none⟩ = some (.slice qs.a qs.n qs.c) := HZB.out.cell 6 _ rfl
    have k7 : y7.cell? ⟨Y.heap.size, 7, none⟩ = some (.int .i64 z.to) := HZB.out.cell 7 _ rfl
    have r0 : y7.cell? ⟨y4.heap.size, 0, none⟩ = some (.int .i64 ((jo : Int) + 1)) := HRB.out.cell 0 _ rfl
    have HLD := Lib.hid (fun zz : Wd (Kn y7 []) => ldThing_same z sx qx ss qs zz.w (HRX.out.stay zz.ok.1) (HQX.out.stay zz.ok.1) (HRS2.out.stay zz.ok.1) (HQS2.out.stay zz.ok.1) HSZ.out.1 HSZ.out.2)
    clear hRx hQx hAx hxz
    have qe0 := fun zz : Wd (Kn y7 []) => stayCell e0 zz.ok.1
    have qe1 := fun zz : Wd (Kn y7 []) => stayCell e1 zz.ok.1
    have qe2 := fun zz : Wd (Kn y7 []) => stayCell e2 zz.ok.1
    have qe3 := fun zz : Wd (Kn y7 []) => stayCell e3 zz.ok.1
    have qe4 := fun zz : Wd (Kn y7 []) => stayCell e4 zz.ok.1
    have qe5 := fun zz : Wd (Kn y7 []) => stayCell e5 zz.ok.1
    have qe6 := fun zz : Wd (Kn y7 []) => stayCell e6 zz.ok.1
    have qe7 := fun zz : Wd (Kn y7 []) => stayCell e7 zz.ok.1
    have qk0 := fun zz : Wd (Kn y7 []) => stayCell k0 zz.ok.1
    have qk1 := fun zz : Wd (Kn y7 []) => stayCell k1 zz.ok.1
    have qk2 := fun zz : Wd (Kn y7 []) => stayCell k2 zz.ok.1
    have qk3 := fun zz : Wd (Kn y7 []) => stayCell k3 zz.ok.1
    have qk4 := fun zz : Wd (Kn y7 []) => stayCell k4 zz.ok.1
    have qk5 := fun zz : Wd (Kn y7 []) => stayCell k5 zz.ok.1
    have qk6 := fun zz : Wd (Kn y7 []) => stayCell k6 zz.ok.1
    have qk7 := fun zz : Wd (Kn y7 []) => stayCell k7 zz.ok.1
    have qr0 := fun zz : Wd (Kn y7 []) => stayCell r0 zz.ok.1
    have ne : Nonempty (Wd (Kn y7 [])) := ⟨⟨_, (Kn.refl (w := y7)).drew⟩⟩
    clear e0 e1 e2 e3 e4 e5 e6 e7 k0 k1 k2 k3 k4 k5 k6 k7 r0
    go_upto_region 14 with fail
    refine wp_region_quiet (C := fun y => ∃ zz : Wd (Kn y7 []), y = zz.w) (by kernel_rfl) (by kernel_rfl) ⟨⟨_, (Kn.refl (w := y7)).drew⟩, rfl⟩ ?_
    show wpQuiet _ _ _ _ [_, _, _, _, _, _, _, _, _, _, _, _, _] _
    repeat (first | go_big_quiet_step ((go_at_call 24; with_reducible exact inCls Kn.stay (HLD.out _))) | quiet_step ((go_at_call 24; with_reducible exact inCls Kn.stay (HLD.out _))))
    refine wpQuiet_nil ?_
    rintro _ ⟨⟨y9, K9⟩, rfl⟩
    have HB2 := Lib.hid (K7.out.1.trans (K9.1.mono K7.out.1.size))
    clear ne qe0 qe1 qe2 qe3 qe4 qe5 qe6 qe7 qk0 qk1 qk2 qk3 qk4 qk5 qk6 qk7 qr0 K9 HLD
    go_wp2
    go_ret
    exact ⟨rfl, HB2.out⟩
  · have hxz := HDW.out.2
    rw [if_pos rfl] at hxz
    have bZ := K7.out.box (b := Y.heap.size) (T := 37) (vs := T8.cs z ss qs) (by simp)
    have k4 := bZ.cell 4 _ rfl
    have kf := bZ.thaw 4
    have c4 := K7.out.c (b := y0.heap.size) (T := 25) (vs := C5.cs ⟨2, (jr : Int) + 1, (ja : Int), (jb : Int), cn⟩) (by simp) 4 _ rfl
    obtain ⟨V, hV⟩ : ∃ V, y7.setCell ⟨Y.heap.size, 4, none⟩ (.int .i64 cn) = V := ⟨_, rfl⟩
    have HZB := Lib.hid (show Box V Y.heap.size 37 (T8.cs { z with num := cn } ss qs) by
      rw [← hV]
      have := bZ.put 4 (.int .i64 cn)
      simpa using this)
    have HRB := Lib.hid (show Box V y4.heap.size 42 (R5.cs ⟨(jo : Int) + 1, rv, rr, rw_, rk⟩) by
      rw [← hV]
      exact (K7.out.box (b := y4.heap.size) (T := 42) (vs := R5.cs ⟨(jo : Int) + 1, rv, rr, rw_, rk⟩) (by simp)).other (p := ⟨Y.heap.size, 4, none⟩) (fun e => NB.out e.symm) _)
    have HBV := Lib.hid (show Below Y.heap.size Y V from hV ▸ HB7.out.setCell (p := ⟨Y.heap.size, 4, none⟩) (Nat.le_refl _) _)
    have HBW := Lib.hid (show Below w.heap.size w V from hV ▸ K7.out.1.setCell (p := ⟨Y.heap.size, 4, none⟩) HWY.out _)
    clear bZ
    go_upto_region 14 with fail
    try rw [hV]
    clear hV k4 kf c4
    obtain ⟨sx, qx, hRx, hQx, hAx⟩ := (P5.out.stay HBV.out).cells (i := jo) (by rw [HXL.out]; exact hjo)
    rw [hxz] at hRx hQx hAx
    have HRX := Lib.hid hRx
    have HQX := Lib.hid hQx
    have HRS2 := Lib.hid (HRS.out.stay HBV.out)
    have HQS2 := Lib.hid (HQS.out.stay HBV.out)
    have e0 : V.cell? ⟨gx, jo * 8, none⟩ = some (.int .i64 z.kind) := hAx 0 _ rfl
    have e1 : V.cell? ⟨gx, jo * 8 + 1, none⟩ = some (.int .i64 z.sec) := hAx 1 _ rfl
    have e2 : V.cell? ⟨gx, jo * 8 + 2, none⟩ = some (.int .i64 z.vou) := hAx 2 _ rfl
    have e3 : V.cell? ⟨gx, jo * 8 + 3, none⟩ = some (.int .i64 z.vers) := hAx 3 _ rfl
    have e4 : V.cell? ⟨gx, jo * 8 + 4, none⟩ = some (.int .i64 cn) := hAx 4 _ rfl
    have e5 : V.cell? ⟨gx, jo * 8 + 5, none⟩ = some (.slice sx.a sx.n sx.c) := hAx 5 _ rfl
    have e6 : V.cell? ⟨gx, jo * 8 + 6, none⟩ = some (.slice qx.a qx.n qx.c) := hAx 6 _ rfl
    have e7 : V.cell? ⟨gx, jo * 8 + 7, none⟩ = some (.int .i64 z.to) := hAx 7 _ rfl
    have k0 : V.cell? ⟨Y.heap.size, 0, none⟩ = some (.int .i64 z.kind) := HZB.out.cell 0 _ rfl
    have k1 : V.cell? ⟨Y.heap.size, 1, none⟩ = some (.int .i64 z.sec) := HZB.out.cell 1 _ rfl
    have k2 : V.cell? ⟨Y.heap.size, 2, none⟩ = some (.int .i64 z.vou) := HZB.out.cell 2 _ rfl
    have k3 : V.cell? ⟨Y.heap.size, 3, none⟩ = some (.int .i64 z.vers) := HZB.out.cell 3 _ rfl
    have k4 : V.cell? ⟨Y.heap.size, 4, none⟩ = some (.int .i64 cn) := HZB.out.cell 4 _ rfl
    have k5 : V.cell? ⟨Y.heap.size, 5, none⟩ = some (.slice ss.a ss.n ss.c) := HZB.out.cell 5 _ rfl
    have k6 : V.cell? ⟨Y.heap.size, 6, none⟩ = some (.slice qs.a qs.n qs.c) := HZB.out.cell 6 _ rfl
    have k7 : V.cell? ⟨Y.heap.size, 7, none⟩ = some (.int .i64 z.to) := HZB.out.cell 7 _ rfl
    have r0 : V.cell? ⟨y4.heap.size, 0, none⟩ = some (.int .i64 ((jo : Int) + 1)) := HRB.out.cell 0 _ rfl
    have HLD := Lib.hid (fun zz : Wd (Kn V []) => ldThing_same { z with num := cn } sx qx ss qs zz.w (HRX.out.stay zz.ok.1) (HQX.out.stay zz.ok.1) (HRS2.out.stay zz.ok.1) (HQS2.out.stay zz.ok.1) HSZ.out.1 HSZ.out.2)
    clear hRx hQx hAx hxz
    have qe0 := fun zz : Wd (Kn V []) => stayCell e0 zz.ok.1
    have qe1 := fun zz : Wd (Kn V []) => stayCell e1 zz.ok.1
    have qe2 := fun zz : Wd (Kn V []) => stayCell e2 zz.ok.1
    have qe3 := fun zz : Wd (Kn V []) => stayCell e3 zz.ok.1
    have qe4 := fun zz : Wd (Kn V []) => stayCell e4 zz.ok.1
    have qe5 := fun zz : Wd (Kn V []) => stayCell e5 zz.ok.1
    have qe6 := fun zz : Wd (Kn V []) => stayCell e6 zz.ok.1
    have qe7 := fun zz : Wd (Kn V []) => stayCell e7 zz.ok.1
    have qk0 := fun zz : Wd (Kn V []) => stayCell k0 zz.ok.1
    have qk1 := fun zz : Wd (Kn V []) => stayCell k1 zz.ok.1
    have qk2 := fun zz : Wd (Kn V []) => stayCell k2 zz.ok.1
    have qk3 := fun zz : Wd (Kn V []) => stayCell k3 zz.ok.1
    have qk4 := fun zz : Wd (Kn V []) => stayCell k4 zz.ok.1
    have qk5 := fun zz : Wd (Kn V []) => stayCell k5 zz.ok.1
    have qk6 := fun zz : Wd (Kn V []) => stayCell k6 zz.ok.1
    have qk7 := fun zz : Wd (Kn V []) => stayCell k7 zz.ok.1
    have qr0 := fun zz : Wd (Kn V []) => stayCell r0 zz.ok.1
    have ne : Nonempty (Wd (Kn V [])) := ⟨⟨_, (Kn.refl (w := V)).drew⟩⟩
    clear e0 e1 e2 e3 e4 e5 e6 e7 k0 k1 k2 k3 k4 k5 k6 k7 r0
    refine wp_region_quiet (C := fun y => ∃ zz : Wd (Kn V []), y = zz.w) (by kernel_rfl) (by kernel_rfl) ⟨⟨_, (Kn.refl (w := V)).drew⟩, rfl⟩ ?_
    show wpQuiet _ _ _ _ [_, _, _, _, _, _, _, _, _, _, _, _, _] _
    repeat (first | go_big_quiet_step ((go_at_call 24; with_reducible exact inCls Kn.stay (HLD.out _))) | quiet_step ((go_at_call 24; with_reducible exact inCls Kn.stay (HLD.out _))))
    refine wpQuiet_nil ?_
    rintro _ ⟨⟨y9, K9⟩, rfl⟩
    have HB2 := Lib.hid (HBW.out.trans (K9.1.mono HBW.out.size))
    clear ne qe0 qe1 qe2 qe3 qe4 qe5 qe6 qe7 qk0 qk1 qk2 qk3 qk4 qk5 qk6 qk7 qr0 K9 HLD
    go_wp2
    go_ret
    exact ⟨rfl, HB2.out⟩
end Go.Proofs.YtgpiclngkmjnpaaGreatDoor
