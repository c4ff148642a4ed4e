/-
  The walk of laws.FnDoStore.
-/
import Derived.Test.YtgpiclngkmjnpaaGreatDoorLdM
namespace Go.Proofs.YtgpiclngkmjnpaaGreatDoor
open Go.RowKit
set_option maxRecDepth 100000
set_option linter.unusedVariables false

theorem wrapk {k : Nat} (h : k < 9) : wrap64 ((k : Int) + 1) = (k : Int) + 1 ∧ IntKind.i64.wrap ((k : Int) + 1) = (k : Int) + 1 ∧ IntKind.i64.wrap (k : Int) = (k : Int) :=
  ⟨by unfold wrap64; omega, IntWalk.i64_in _ (by omega), IntWalk.i64_in _ (by omega)⟩
theorem neqk {k j : Nat} (h : ¬ k = j) : ((k : Int) == (j : Int)) = false ∧ ((k : Int) != (j : Int)) = true := by
  refine ⟨?_, ?_⟩ <;> simp <;> omega
theorem ltk (k : Nat) : k < 4 ↔ (k : Int) < 4 := by omega
theorem meas4 {k : Nat} (h : k < 4) : 4 - (intOf (.int .i64 ((k + 1 : Nat) : Int))).toNat < 4 - (intOf (.int .i64 (k : Int))).toNat := by
  simp only [intOf]; omega
set_option maxHeartbeats 16000000 in
theorem walk_FnDoStore (a0 : Option Addr) (len0 cap0 : Nat) (z0 : List Int) (w : World) (hKF : KF w) (hET : ET w) (w0 : IsRow .u8 w a0 len0 cap0 z0) :
    Calls Tryz.prog 10 #[.slice a0 len0 cap0] w fun e w' => e = .returned (.bool true) ∧ Below w.heap.size w w' := by
  by_cases g0 : (1048576 : Int) < (len0 : Int)
  · go_enter Tryz.func10, Tryz.ntmps10
    go_wp2
    go_ret
    exact ⟨rfl, Below.refl _ _⟩
  have W0 := Lib.hid w0
  have HF := Lib.hid hKF
  have HE := Lib.hid hET
  clear w0 hKF hET
  go_enter Tryz.func10, Tryz.ntmps10
  go_wp2_with fail
  refine (drawCD_any a0 len0 cap0 z0 _ W0.out).mono ?_
  rintro e y0 ⟨g, c, l, q, rfl, hT, l3, l8, hzs, hb⟩
  have K0 := Lib.hid ((Kn.start hb).new 25 (C5.cs q))
  have T0 := Lib.hid (hT.stay ((Below.refl _ _).alloc (Nat.le_refl _) (.cells (C5.cs q) 25)))
  have HZS := Lib.hid hzs
  have hz : l.length ≤ 1048576 := by omega
  clear W0 hb hT hzs
  obtain ⟨x, ans, hv⟩ : ∃ x ans, callV l q = (x, ans) := ⟨_, _, rfl⟩
  have HV := Lib.hid hv
  have HSX := Lib.hid (call_sm hv)
  clear hv
  go_wp2_with fail
  refine (specDo_val (s := ⟨some ⟨g, 0, none⟩, l.length, c⟩) HV.out _ T0.out hz HZS.out).mono ?_
  rintro e y1 ⟨s1, ts1, rfl, t1, hm1, hb⟩
  have K1 := Lib.hid (K0.out.stay hb)
  have T1 := Lib.hid (T0.out.stay hb)
  have X1 := Lib.hid (show HasT y1 s1 x from hm1 ▸ t1.hasT)
  clear hb t1 hm1 K0 T0
  have c0 := K1.out.c (b := y0.heap.size) (T := 25) (vs := C5.cs q) (by simp) 0 _ rfl
  have c1 := K1.out.c (b := y0.heap.size) (T := 25) (vs := C5.cs q) (by simp) 1 _ rfl
  have c2 := K1.out.c (b := y0.heap.size) (T := 25) (vs := C5.cs q) (by simp) 2 _ rfl
  have c3 := K1.out.c (b := y0.heap.size) (T := 25) (vs := C5.cs q) (by simp) 3 _ rfl
  have c4 := K1.out.c (b := y0.heap.size) (T := 25) (vs := C5.cs q) (by simp) 4 _ rfl
  go_wp2_with fail
  refine (implDo_val (s := ⟨some ⟨g, 0, none⟩, l.length, c⟩) HV.out _ T1.out (HF.out.stay K1.out.1) (HE.out.stay K1.out.1) hz).mono ?_
  rintro e y2 ⟨s2, ts2, rfl, t2, hm2, hb⟩
  have K2 := Lib.hid (K1.out.stay hb)
  have T2 := Lib.hid (T1.out.stay hb)
  have X2 := Lib.hid (X1.out.stay hb)
  have P2 := Lib.hid (show HasT y2 s2 x from hm2 ▸ t2.hasT)
  have HA2 := Lib.hid (show 0 < x.length → ∃ gx, s2.a = some ⟨gx, 0, none⟩ from fun h => by
    obtain ⟨gx, cur, e, -⟩ := t2.1.form (by have := congrArg List.length hm2; simp at this; omega)
    exact ⟨gx, e⟩)
  clear hb t2 hm2 K1 T1 X1 c0 c1 c2 c3 c4
  go_wp2_with fail
  refine (ldTable_same x s2 s1 _ P2.out X2.out HSX.out.1 HSX.out.2).mono ?_
  rintro e y3 ⟨rfl, hb⟩
  have K3 := Lib.hid (K2.out.stay hb)
  have T3 := Lib.hid (T2.out.stay hb)
  have X3 := Lib.hid (X2.out.stay hb)
  have P3 := Lib.hid (P2.out.stay hb)
  clear hb K2 T2 X2 P2
  have c0 := K3.out.c (b := y0.heap.size) (T := 25) (vs := C5.cs q) (by simp) 0 _ rfl
  have c1 := K3.out.c (b := y0.heap.size) (T := 25) (vs := C5.cs q) (by simp) 1 _ rfl
  have c2 := K3.out.c (b := y0.heap.size) (T := 25) (vs := C5.cs q) (by simp) 2 _ rfl
  have c3 := K3.out.c (b := y0.heap.size) (T := 25) (vs := C5.cs q) (by simp) 3 _ rfl
  have c4 := K3.out.c (b := y0.heap.size) (T := 25) (vs := C5.cs q) (by simp) 4 _ rfl
  go_wp2_with fail
  refine (ldCan_any l g l.length c q _ T3.out rfl (HF.out.stay K3.out.1) hz).mono ?_
  rintro e y4 ⟨v, rfl, hv, hb⟩
  have HVV := Lib.hid hv
  have K4 := Lib.hid (K3.out.stay hb)
  have T4 := Lib.hid (T3.out.stay hb)
  have X4 := Lib.hid (X3.out.stay hb)
  have P4 := Lib.hid (P3.out.stay hb)
  clear hb hv K3 T3 X3 P3 c0 c1 c2 c3 c4
  cases v
  · go_wp2_with fail
    refine (ldTable_same x s2 s1 _ P4.out X4.out HSX.out.1 HSX.out.2).mono ?_
    rintro e y5 ⟨rfl, hb⟩
    have HB := Lib.hid (K4.out.stay hb).1
    clear hb
    go_wp2
    go_ret
    exact ⟨rfl, HB.out⟩
  have HO := Lib.hid (HVV.out.1 rfl)
  have HXA := Lib.hid (show x = (doV l q).1 ∧ ans = (doV l q).2 by
    have := HV.out
    rw [callV_ok HO.out] at this
    rw [this]; exact ⟨rfl, rfl⟩)
  have hxl : x.length = l.length := by rw [HXA.out.1, do_len]
  obtain ⟨gx, hs2⟩ := HA2.out (by omega)
  have hsn : s2.n = l.length := by rw [P4.out.1, hxl]
  have HXL := Lib.hid hxl
  obtain ⟨s2a, s2n, cx⟩ := s2
  dsimp only at hs2 hsn
  subst hs2 hsn
  obtain ⟨jr, hjr, hcr, hth, hkr⟩ := HO.out.run
  have hbd := C5.bd HO.out.2
  obtain ⟨ck, cr, ca, cbb, cn⟩ := q
  dsimp only at *
  subst hcr
  obtain ⟨ja, rfl⟩ : ∃ ja : Nat, ca = ja := ⟨ca.toNat, by omega⟩
  obtain ⟨jb, rfl⟩ : ∃ jb : Nat, cbb = jb := ⟨cbb.toNat, by omega⟩
  have hja : ja < 4 := by omega
  have hjb : jb < 4 := by omega
  have hjr' : (jr : Int) < (l.length : Int) := by omega
  have hja' : (ja : Int) < 4 := by omega
  have hjb' : (jb : Int) < 4 := by omega
  have wr : wrap64 ((jr : Int) + 1 - 1) = (jr : Int) := by unfold wrap64; omega
  have wr2 : IntKind.i64.wrap (jr : Int) = (jr : Int) := IntWalk.i64_in _ (by omega)
  have HBD := Lib.hid hbd
  have HTH := Lib.hid hth
  have HKR := Lib.hid hkr
  clear hbd hth hkr hxl HA2 HV HVV X4 HZS
  have c0 := K4.out.c (b := y0.heap.size) (T := 25) (vs := C5.cs ⟨ck, (jr : Int) + 1, (ja : Int), (jb : Int), cn⟩) (by simp) 0 _ rfl
  have c1 := K4.out.c (b := y0.heap.size) (T := 25) (vs := C5.cs ⟨ck, (jr : Int) + 1, (ja : Int), (jb : Int), cn⟩) (by simp) 1 _ rfl
  have c2 := K4.out.c (b := y0.heap.size) (T := 25) (vs := C5.cs ⟨ck, (jr : Int) + 1, (ja : Int), (jb : Int), cn⟩) (by simp) 2 _ rfl
  have c3 := K4.out.c (b := y0.heap.size) (T := 25) (vs := C5.cs ⟨ck, (jr : Int) + 1, (ja : Int), (jb : Int), cn⟩) (by simp) 3 _ rfl
  have c4 := K4.out.c (b := y0.heap.size) (T := 25) (vs := C5.cs ⟨ck, (jr : Int) + 1, (ja : Int), (jb : Int), cn⟩) (by simp) 4 _ rfl
  by_cases hk1 : ¬ ck = 5
  · have hk1' : (ck == 5) = false := by simpa using hk1
    have hk1'' : (ck != 5) = true := by simpa using hk1
    clear hk1
    go_wp2
    go_ret
    exact ⟨rfl, K4.out.1⟩
  obtain rfl : ck = 5 := Classical.not_not.1 hk1
  clear hk1
  by_cases hneg : ans < 0
  · go_wp2
    go_ret
    exact ⟨rfl, K4.out.1⟩
  have hans0 : 0 ≤ ans := by omega
  have h0 := pass_of HO.out (by rw [← HXA.out.2]; exact hans0)
  obtain ⟨jo, hjo, hro, hnj⟩ := obj_get HO.out h0 (show (5 : Int) ≠ 3 by decide) hjr rfl
  have hjo' : (jo : Int) < (l.length : Int) := by omega
  have wo : wrap64 ((jo : Int) + 1 - 1) = (jo : Int) := by unfold wrap64; omega
  have wo2 : IntKind.i64.wrap (jo : Int) = (jo : Int) := IntWalk.i64_in _ (by omega)
  have HH0 := Lib.hid h0
  have HRO := Lib.hid hro
  have HNJ := Lib.hid hnj
  clear h0 hro hnj
  obtain ⟨jr1, ja1, hjr1, rb, ro, sc, qs, er1, ea1, -, eth1, hA, hB, -⟩ := slot_at T4.out HO.out.1 HO.out.2
  obtain rfl : jr = jr1 := by dsimp only at er1; omega
  obtain rfl : ja = ja1 := by dsimp only at ea1; omega
  obtain ⟨r, hr⟩ : ∃ r, rOf l ⟨5, (jr : Int) + 1, (ja : Int), (jb : Int), cn⟩ = r := ⟨_, rfl⟩
  have hBr : At y4 rb (ro + ja * 5) r.cs := by rw [← hr]; exact hB
  obtain ⟨rt, rv, rr, rw_, rk⟩ := r
  have HR := Lib.hid hr
  have f5 : y4.cell? ⟨g, jr * 8 + 5, none⟩ = some (.slice (some ⟨rb, ro, none⟩) 4 sc) := hA 5 _ rfl
  have g0' : y4.cell? ⟨rb, ro + ja * 5, none⟩ = some (.int .i64 rt) := hBr 0 _ rfl
  have g1 : y4.cell? ⟨rb, ro + ja * 5 + 1, none⟩ = some (.int .i64 rv) := hBr 1 _ rfl
  have g2 : y4.cell? ⟨rb, ro + ja * 5 + 2, none⟩ = some (.bool rr) := hBr 2 _ rfl
  have g3 : y4.cell? ⟨rb, ro + ja * 5 + 3, none⟩ = some (.bool rw_) := hBr 3 _ rfl
  have g4 : y4.cell? ⟨rb, ro + ja * 5 + 4, none⟩ = some (.bool rk) := hBr 4 _ rfl
  have hbl1 := cell_lt f5
  have hbl2 := cell_lt g0'
  have hbl3 := cell_lt c0
  clear hA hB hBr hr er1 ea1 eth1
  go_upto_region 10 with fail
  go_region
  have K5 := Lib.hid ((K4.out.new 42 (R5.cs ⟨rt, rv, rr, rw_, rk⟩)).drew)
  have B5 := Lib.hid (((Below.refl y4.heap.size y4).alloc (Nat.le_refl _) (.cells (R5.cs ⟨rt, rv, rr, rw_, rk⟩) 42)).drew)
  have T5 := Lib.hid (T4.out.stay B5.out)
  have P5 := Lib.hid (P4.out.stay B5.out)
  obtain ⟨Y, hY⟩ : ∃ Y, (y4.alloc (.cells (R5.cs ⟨rt, rv, rr, rw_, rk⟩) 42)).drew = Y := ⟨_, rfl⟩
  rw [hY] at K5 B5 T5 P5 ⊢
  clear hY K4 T4 P4 f5 g0' g1 g2 g3 g4 c0 c1 c2 c3 c4
  have hrt : rt = (jo : Int) + 1 := by have := HRO.out; rw [HR.out] at this; exact this
  subst hrt
  have HL4 := Lib.hid (node_of HO.out HH0.out (.inr rfl) hjo (by rw [HR.out]))
  have HR4 := Lib.hid (run4 HO.out hjr rfl)
  have hdf := do_store HO.out rfl (by rw [← HXA.out.2]; exact hans0) hjr rfl hjo (by rw [HR.out])
  have hxr : x[jr]'(by rw [HXL.out]; exact hjr) = { l[jr]'hjr with num := 0 } := by
    rw [get_of HXA.out.1 (i := jr) (by rw [HXL.out]; exact hjr)]; exact hdf.2.1
  have HXR := Lib.hid hxr
  have HX4 := Lib.hid (show (x[jr]'(by rw [HXL.out]; exact hjr)).slots.length = 4 by rw [hxr]; exact HR4.out)
  obtain ⟨jn, hjn, hrem⟩ : ∃ jn : Nat, jn < 4 ∧ Int.tmod cn 4 = (jn : Int) := ⟨(cn % 4).toNat, by omega, tmod_of HBD.out.2.2.2.2.1 4 (by decide)⟩
  have HREM := Lib.hid hrem
  have HXO := Lib.hid (show x[jo]'(by rw [HXL.out]; exact hjo) = if liveB l (rOf l ⟨5, (jr : Int) + 1, (ja : Int), (jb : Int), cn⟩) then { l[jo]'hjo with slots := (l[jo]'hjo).slots.set jn (slotAt (l[jr]'hjr) (jb : Int)) } else l[jo]'hjo by
    rw [get_of HXA.out.1 (i := jo) (by rw [HXL.out]; exact hjo), hdf.2.2]
    dsimp only
    rw [show (cn % 4).toNat = jn by
      have := HBD.out.2.2.2.2
      rw [Int.tmod_eq_emod_of_nonneg this.1] at hrem
      omega])
  have ha0 : ans = 0 := HXA.out.2.trans hdf.1
  subst ha0
  clear hdf hxr hrem
  have hjn' : (jn : Int) < 4 := by omega
  obtain ⟨mi, hmi⟩ : ∃ mi, (l[jr]'hjr).slots[jb]'(by rw [HR4.out]; exact hjb) = mi := ⟨_, rfl⟩
  have HMI := Lib.hid hmi
  have HSA := Lib.hid (show slotAt (l[jr]'hjr) (jb : Int) = mi by rw [slotAt_of (j := jb) (by rw [HR4.out]; exact hjb) rfl, hmi])
  clear hmi
  obtain ⟨mt, mv, mr, mw, mk⟩ := mi
  have c1 := K5.out.c (b := y0.heap.size) (T := 25) (vs := C5.cs ⟨5, (jr : Int) + 1, (ja : Int), (jb : Int), cn⟩) (by simp) 1 _ rfl
  have c3 := K5.out.c (b := y0.heap.size) (T := 25) (vs := C5.cs ⟨5, (jr : Int) + 1, (ja : Int), (jb : Int), cn⟩) (by simp) 3 _ rfl
  have hlc1 := cell_lt c1
  obtain ⟨rbn, ron, scn, fsn, hBn⟩ := slot_get T5.out hjr HR4.out hjb
  rw [HMI.out] at hBn
  have bn0 : Y.cell? ⟨rbn, ron + jb * 5, none⟩ = some (.int .i64 mt) := hBn 0 _ rfl
  have bn1 : Y.cell? ⟨rbn, ron + jb * 5 + 1, none⟩ = some (.int .i64 mv) := hBn 1 _ rfl
  have bn2 : Y.cell? ⟨rbn, ron + jb * 5 + 2, none⟩ = some (.bool mr) := hBn 2 _ rfl
  have bn3 : Y.cell? ⟨rbn, ron + jb * 5 + 3, none⟩ = some (.bool mw) := hBn 3 _ rfl
  have bn4 : Y.cell? ⟨rbn, ron + jb * 5 + 4, none⟩ = some (.bool mk) := hBn 4 _ rfl
  have ln1 := cell_lt fsn
  have ln2 := cell_lt bn0
  clear hBn
  go_upto_region 11 with fail
  go_region
  obtain ⟨Y1, hYn⟩ : ∃ Y', (Y.alloc (.cells (R5.cs ⟨mt, mv, mr, mw, mk⟩) 42)).drew = Y' := ⟨_, rfl⟩
  try rw [hYn]
  have Nn := Lib.hid (show Box Y1 Y.heap.size 42 (R5.cs ⟨mt, mv, mr, mw, mk⟩) from hYn ▸ (Box.fresh Y 42 (R5.cs ⟨mt, mv, mr, mw, mk⟩)).drew)
  have Bn := Lib.hid (show Below Y.heap.size Y Y1 from hYn ▸ ((Below.refl _ _).alloc (Nat.le_refl _) _).drew)
  clear hYn fsn bn0 bn1 bn2 bn3 bn4
  clear c1 c3
  have HK6 := Lib.hid (K5.out.stay Bn.out)
  have T6 := Lib.hid (T5.out.stay Bn.out)
  have r0 := HK6.out.c (b := y4.heap.size) (T := 42) (vs := R5.cs ⟨(jo : Int) + 1, rv, rr, rw_, rk⟩) (by simp) 0 _ rfl
  have r1 := HK6.out.c (b := y4.heap.size) (T := 42) (vs := R5.cs ⟨(jo : Int) + 1, rv, rr, rw_, rk⟩) (by simp) 1 _ rfl
  have r2 := HK6.out.c (b := y4.heap.size) (T := 42) (vs := R5.cs ⟨(jo : Int) + 1, rv, rr, rw_, rk⟩) (by simp) 2 _ rfl
  have r3 := HK6.out.c (b := y4.heap.size) (T := 42) (vs := R5.cs ⟨(jo : Int) + 1, rv, rr, rw_, rk⟩) (by simp) 3 _ rfl
  have r4 := HK6.out.c (b := y4.heap.size) (T := 42) (vs := R5.cs ⟨(jo : Int) + 1, rv, rr, rw_, rk⟩) (by simp) 4 _ rfl
  obtain ⟨lv, hlv⟩ : ∃ lv, liveB l ⟨(jo : Int) + 1, rv, rr, rw_, rk⟩ = lv := ⟨_, rfl⟩
  have HLV := Lib.hid (show tabLive l ⟨(jo : Int) + 1, rv, rr, rw_, rk⟩ = lv by rw [← HR.out, liveB_tab HO.out, HR.out]; exact hlv)
  have HLB := Lib.hid (show liveB l (rOf l ⟨5, (jr : Int) + 1, (ja : Int), (jb : Int), cn⟩) = lv by rw [HR.out]; exact hlv)
  clear hlv
  go_wp2_with fail
  refine (implTabLive_val' (s := ⟨some ⟨g, 0, none⟩, l.length, c⟩) (r := ⟨(jo : Int) + 1, rv, rr, rw_, rk⟩) HLV.out _ T6.out (HF.out.stay HK6.out.1) hz).mono ?_
  rintro e y6 ⟨rfl, hb⟩
  have B6 := Lib.hid (show Below Y.heap.size Y y6 from Bn.out.trans (hb.mono Bn.out.size))
  have N6 := Lib.hid (Nn.out.stay hb)
  clear hb r0 r1 r2 r3 r4 HK6 T6
  have hxo := HXO.out
  rw [HLB.out, HSA.out] at hxo
  cases lv
  · as_aux_lemma =>
      rw [if_neg (by decide)] at hxo
      obtain ⟨sx, qx, hRx, hQx, hAx⟩ := (P5.out.stay B6.out).cells (i := jo) (by rw [HXL.out]; exact hjo)
      rw [hxo] at hRx hQx hAx
      obtain ⟨ss, qs, hRs, hQs, hAs⟩ := (T5.out.stay B6.out).cells hjo
      obtain ⟨z, hz'⟩ : ∃ z, l[jo]'hjo = z := ⟨_, rfl⟩
      have hsm := get_set_sm (fun i hi => by have := (tab_small HO.out.tab).2 i hi; omega) hjo hz'
      rw [hz'] at hRs hQs hAs hRx hQx hAx
      have e0 : y6.cell? ⟨gx, jo * 8, none⟩ = some (.int .i64 z.kind) := hAx 0 _ rfl
      have e1 : y6.cell? ⟨gx, jo * 8 + 1, none⟩ = some (.int .i64 z.sec) := hAx 1 _ rfl
      have e2 : y6.cell? ⟨gx, jo * 8 + 2, none⟩ = some (.int .i64 z.vou) := hAx 2 _ rfl
      have e3 : y6.cell? ⟨gx, jo * 8 + 3, none⟩ = some (.int .i64 z.vers) := hAx 3 _ rfl
      have e4 : y6.cell? ⟨gx, jo * 8 + 4, none⟩ = some (.int .i64 z.num) := hAx 4 _ rfl
      have e5 : y6.cell? ⟨gx, jo * 8 + 5, none⟩ = some (.slice sx.a sx.n sx.c) := hAx 5 _ rfl
      have e6 : y6.cell? ⟨gx, jo * 8 + 6, none⟩ = some (.slice qx.a qx.n qx.c) := hAx 6 _ rfl
      have e7 : y6.cell? ⟨gx, jo * 8 + 7, none⟩ = some (.int .i64 z.to) := hAx 7 _ rfl
      have d0 : y6.cell? ⟨g, jo * 8, none⟩ = some (.int .i64 z.kind) := hAs 0 _ rfl
      have d1 : y6.cell? ⟨g, jo * 8 + 1, none⟩ = some (.int .i64 z.sec) := hAs 1 _ rfl
      have d2 : y6.cell? ⟨g, jo * 8 + 2, none⟩ = some (.int .i64 z.vou) := hAs 2 _ rfl
      have d3 : y6.cell? ⟨g, jo * 8 + 3, none⟩ = some (.int .i64 z.vers) := hAs 3 _ rfl
      have d4 : y6.cell? ⟨g, jo * 8 + 4, none⟩ = some (.int .i64 z.num) := hAs 4 _ rfl
      have d5 : y6.cell? ⟨g, jo * 8 + 5, none⟩ = some (.slice ss.a ss.n ss.c) := hAs 5 _ rfl
      have d6 : y6.cell? ⟨g, jo * 8 + 6, none⟩ = some (.slice qs.a qs.n qs.c) := hAs 6 _ rfl
      have d7 : y6.cell? ⟨g, jo * 8 + 7, none⟩ = some (.int .i64 z.to) := hAs 7 _ rfl
      have r0 : y6.cell? ⟨y4.heap.size, 0, none⟩ = some (.int .i64 ((jo : Int) + 1)) := ((K5.out.stay B6.out).box (b := y4.heap.size) (T := 42) (vs := R5.cs ⟨(jo : Int) + 1, rv, rr, rw_, rk⟩) (by simp)).cell 0 _ rfl
      have HLD := Lib.hid (fun zz : Wd (Kn y6 []) => ldThing_same z sx qx ss qs zz.w (hRx.stay zz.ok.1) (hQx.stay zz.ok.1) (hRs.stay zz.ok.1) (hQs.stay zz.ok.1) hsm.1 hsm.2)
      have HBW := Lib.hid (K5.out.stay B6.out).1
      clear hRx hQx hAx hRs hQs hAs hz' hsm hxo
      have qe0 := fun zz : Wd (Kn y6 []) => stayCell e0 zz.ok.1
      have qe1 := fun zz : Wd (Kn y6 []) => stayCell e1 zz.ok.1
      have qe2 := fun zz : Wd (Kn y6 []) => stayCell e2 zz.ok.1
      have qe3 := fun zz : Wd (Kn y6 []) => stayCell e3 zz.ok.1
      have qe4 := fun zz : Wd (Kn y6 []) => stayCell e4 zz.ok.1
      have qe5 := fun zz : Wd (Kn y6 []) => stayCell e5 zz.ok.1
      have qe6 := fun zz : Wd (Kn y6 []) => stayCell e6 zz.ok.1
      have qe7 := fun zz : Wd (Kn y6 []) => stayCell e7 zz.ok.1
      have qd0 := fun zz : Wd (Kn y6 []) => stayCell d0 zz.ok.1
      have qd1 := fun zz : Wd (Kn y6 []) => stayCell d1 zz.ok.1
      have qd2 := fun zz : Wd (Kn y6 []) => stayCell d2 zz.ok.1
      have qd3 := fun zz : Wd (Kn y6 []) => stayCell d3 zz.ok.1
      have qd4 := fun zz : Wd (Kn y6 []) => stayCell d4 zz.ok.1
      have qd5 := fun zz : Wd (Kn y6 []) => stayCell d5 zz.ok.1
      have qd6 := fun zz : Wd (Kn y6 []) => stayCell d6 zz.ok.1
      have qd7 := fun zz : Wd (Kn y6 []) => stayCell d7 zz.ok.1
      have qr0 := fun zz : Wd (Kn y6 []) => stayCell r0 zz.ok.1
      have ne : Nonempty (Wd (Kn y6 [])) := ⟨⟨_, (Kn.refl (w := y6)).drew⟩⟩
      clear e0 e1 e2 e3 e4 e5 e6 e7 d0 d1 d2 d3 d4 d5 d6 d7 r0
      go_upto_region 13 with fail
      refine wp_region_quiet (C := fun y => ∃ zz : Wd (Kn y6 []), y = zz.w) (by kernel_rfl) (by kernel_rfl) ⟨⟨_, (Kn.refl (w := y6)).drew⟩, rfl⟩ ?_
      show wpQuiet _ _ _ _ [_, _, _, _, _, _, _, _, _, _, _, _, _, _] _
      repeat (first | go_big_quiet_step ((go_at_call 24; with_reducible exact inCls Kn.stay (HLD.out _))) | quiet_step ((go_at_call 24; with_reducible exact inCls Kn.stay (HLD.out _))))
      refine wpQuiet_nil ?_
      rintro _ ⟨⟨y9, K9⟩, rfl⟩
      have HB2 := Lib.hid (HBW.out.trans (K9.1.mono HBW.out.size))
      clear ne qe0 qe1 qe2 qe3 qe4 qe5 qe6 qe7 qd0 qd1 qd2 qd3 qd4 qd5 qd6 qd7 qr0 K9 HLD
      go_wp2
      go_ret
      exact ⟨rfl, HB2.out⟩
  · as_aux_lemma =>
      rw [if_pos rfl] at hxo
      have HXO4 := Lib.hid (show (x[jo]'(by rw [HXL.out]; exact hjo)).slots.length = 4 by rw [hxo, List.length_set]; exact HL4.out)
      have HXS := Lib.hid (show ∀ (k : Nat) (hk : k < 4), (x[jo]'(by rw [HXL.out]; exact hjo)).slots[k]'(by rw [HXO4.out]; exact hk) = if jn = k then ⟨mt, mv, mr, mw, mk⟩ else (l[jo]'hjo).slots[k]'(by rw [HL4.out]; exact hk) from fun k hk => by
        simp only [hxo, List.getElem_set])
      have P6 := Lib.hid (P5.out.stay B6.out)
      have T6 := Lib.hid (T5.out.stay B6.out)
      have K6 := Lib.hid (K5.out.stay B6.out)
      clear hxo
      go_wp2
      go_loopw [11] (fun i wr => ∃ k : Nat, k ≤ 4 ∧ i = .int .i64 k ∧ Below y6.heap.size y6 wr) (fun i _ => 4 - (intOf i).toNat)
      case atStart => exact ⟨0, by omega, rfl, Below.refl _ _⟩
      case round =>
        as_aux_lemma =>
          obtain ⟨k, hk, rfl, B0⟩ := hrel
          have HB := Lib.hid B0
          have KK := Lib.hid (K6.out.stay B0)
          have TK := Lib.hid (T6.out.stay B0)
          have PK := Lib.hid (P6.out.stay B0)
          have NK := Lib.hid (N6.out.stay B0)
          clear B0
          have r0 : wr.cell? ⟨y4.heap.size, 0, none⟩ = some (.int .i64 ((jo : Int) + 1)) := (KK.out.box (b := y4.heap.size) (T := 42) (vs := R5.cs ⟨(jo : Int) + 1, rv, rr, rw_, rk⟩) (by simp)).cell 0 _ rfl
          have n0 := NK.out.cell 0 _ rfl
          have n1 := NK.out.cell 1 _ rfl
          have n2 := NK.out.cell 2 _ rfl
          have n3 := NK.out.cell 3 _ rfl
          have n4 := NK.out.cell 4 _ rfl
          have c1 := KK.out.c (b := y0.heap.size) (T := 25) (vs := C5.cs ⟨5, (jr : Int) + 1, (ja : Int), (jb : Int), cn⟩) (by simp) 1 _ rfl
          have c3 := KK.out.c (b := y0.heap.size) (T := 25) (vs := C5.cs ⟨5, (jr : Int) + 1, (ja : Int), (jb : Int), cn⟩) (by simp) 3 _ rfl
          have c4 := KK.out.c (b := y0.heap.size) (T := 25) (vs := C5.cs ⟨5, (jr : Int) + 1, (ja : Int), (jb : Int), cn⟩) (by simp) 4 _ rfl
          by_cases hlt : ¬ k < 4
          · as_aux_lemma =>
              have hlt' : ¬ (k : Int) < 4 := fun h => hlt ((ltk k).2 h)
              obtain ⟨rbx, rox, scx, fsx, hBx⟩ := slot_get PK.out (by rw [HXL.out]; exact hjr) HX4.out hjb
              rw [show (x[jr]'(by rw [HXL.out]; exact hjr)).slots[jb]'(by rw [HX4.out]; exact hjb) = ⟨mt, mv, mr, mw, mk⟩ by simp only [HXR.out]; exact HMI.out] at hBx
              have bx0 : wr.cell? ⟨rbx, rox + jb * 5, none⟩ = some (.int .i64 mt) := hBx 0 _ rfl
              have bx1 : wr.cell? ⟨rbx, rox + jb * 5 + 1, none⟩ = some (.int .i64 mv) := hBx 1 _ rfl
              have bx2 : wr.cell? ⟨rbx, rox + jb * 5 + 2, none⟩ = some (.bool mr) := hBx 2 _ rfl
              have bx3 : wr.cell? ⟨rbx, rox + jb * 5 + 3, none⟩ = some (.bool mw) := hBx 3 _ rfl
              have bx4 : wr.cell? ⟨rbx, rox + jb * 5 + 4, none⟩ = some (.bool mk) := hBx 4 _ rfl
              clear hBx
              go_upto_region 19 with fail
              go_quiet (fail)
              go_wp2
              go_ret
              exact ⟨rfl, (KK.out.drewN _).1⟩
          have hkl : k < 4 := Classical.not_not.1 hlt
          have hlt' := (ltk k).1 hkl
          obtain ⟨wk, wk2, wk3⟩ := wrapk (Nat.lt_of_lt_of_le hkl (by decide))
          by_cases hkn : k = jn
          · as_aux_lemma =>
              subst hkn
              obtain ⟨rbx, rox, scx, fsx, hBx⟩ := slot_get PK.out (by rw [HXL.out]; exact hjo) HXO4.out hkl
              rw [show (x[jo]'(by rw [HXL.out]; exact hjo)).slots[k]'(by rw [HXO4.out]; exact hkl) = ⟨mt, mv, mr, mw, mk⟩ by rw [HXS.out k hkl, if_pos rfl]] at hBx
              have bx0 : wr.cell? ⟨rbx, rox + k * 5, none⟩ = some (.int .i64 mt) := hBx 0 _ rfl
              have bx1 : wr.cell? ⟨rbx, rox + k * 5 + 1, none⟩ = some (.int .i64 mv) := hBx 1 _ rfl
              have bx2 : wr.cell? ⟨rbx, rox + k * 5 + 2, none⟩ = some (.bool mr) := hBx 2 _ rfl
              have bx3 : wr.cell? ⟨rbx, rox + k * 5 + 3, none⟩ = some (.bool mw) := hBx 3 _ rfl
              have bx4 : wr.cell? ⟨rbx, rox + k * 5 + 4, none⟩ = some (.bool mk) := hBx 4 _ rfl
              clear hBx
              have hrem := HREM.out
              go_upto_region 17 with fail
              go_quiet (fail)
              clear hrem
              go_wp2
              go_roundw
              case rel => exact ⟨k + 1, hkl, by go_num, drewNB HB.out _⟩
              case measure => (have hms := meas4 hkl; simp only [intOf] at hms ⊢; exact hms)
          obtain ⟨hne, hne2⟩ := neqk hkn
          obtain ⟨v, hv⟩ : ∃ v, (l[jo]'hjo).slots[k]'(by rw [HL4.out]; exact hkl) = v := ⟨_, rfl⟩
          have HV := Lib.hid hv
          have HVX := Lib.hid (show (x[jo]'(by rw [HXL.out]; exact hjo)).slots[k]'(by rw [HXO4.out]; exact hkl) = v by rw [HXS.out k hkl, if_neg (fun e => hkn e.symm), hv])
          clear hv
          obtain ⟨vt, vv, vr, vw, vk⟩ := v
          obtain ⟨rbx, rox, scx, fsx, hBx⟩ := slot_get PK.out (by rw [HXL.out]; exact hjo) HXO4.out hkl
          rw [HVX.out] at hBx
          have bx0 : wr.cell? ⟨rbx, rox + k * 5, none⟩ = some (.int .i64 vt) := hBx 0 _ rfl
          have bx1 : wr.cell? ⟨rbx, rox + k * 5 + 1, none⟩ = some (.int .i64 vv) := hBx 1 _ rfl
          have bx2 : wr.cell? ⟨rbx, rox + k * 5 + 2, none⟩ = some (.bool vr) := hBx 2 _ rfl
          have bx3 : wr.cell? ⟨rbx, rox + k * 5 + 3, none⟩ = some (.bool vw) := hBx 3 _ rfl
          have bx4 : wr.cell? ⟨rbx, rox + k * 5 + 4, none⟩ = some (.bool vk) := hBx 4 _ rfl
          clear hBx
          obtain ⟨rbt, rot, sct, fst, hBt⟩ := slot_get TK.out hjo HL4.out hkl
          rw [HV.out] at hBt
          have bt0 : wr.cell? ⟨rbt, rot + k * 5, none⟩ = some (.int .i64 vt) := hBt 0 _ rfl
          have bt1 : wr.cell? ⟨rbt, rot + k * 5 + 1, none⟩ = some (.int .i64 vv) := hBt 1 _ rfl
          have bt2 : wr.cell? ⟨rbt, rot + k * 5 + 2, none⟩ = some (.bool vr) := hBt 2 _ rfl
          have bt3 : wr.cell? ⟨rbt, rot + k * 5 + 3, none⟩ = some (.bool vw) := hBt 3 _ rfl
          have bt4 : wr.cell? ⟨rbt, rot + k * 5 + 4, none⟩ = some (.bool vk) := hBt 4 _ rfl
          clear hBt
          have hrem := HREM.out
          go_upto_region 17 with fail
          go_quiet (fail)
          clear hrem
          go_wp2
          go_roundw
          case rel => exact ⟨k + 1, hkl, by go_num, drewNB HB.out _⟩
          case measure => (have hms := meas4 hkl; simp only [intOf] at hms ⊢; exact hms)
end Go.Proofs.YtgpiclngkmjnpaaGreatDoor
