/-
  The walk of laws.FnDoFetch.
-/
import Derived.Test.YtgpiclngkmjnpaaGreatDoorLdM
namespace Go.Proofs.YtgpiclngkmjnpaaGreatDoor
open Go.RowKit
set_option maxRecDepth 100000
set_option linter.unusedVariables false

set_option maxHeartbeats 16000000 in
theorem walk_FnDoFetch (a0 : Option Addr) (len0 cap0 : Nat) (z0 : List Int) (w : World) (hKF : KF w) (hET : ET w) (w0 : IsRow .u8 w a0 len0 cap0 z0) :
    Calls Tryz.prog 9 #[.slice a0 len0 cap0] w fun e w' => e = .returned (.bool true) ∧ Below w.heap.size w w' := by
  by_cases g0 : (1048576 : Int) < (len0 : Int)
  · go_enter Tryz.func9, Tryz.ntmps9
    go_wp2
    go_ret
    exact ⟨rfl, Below.refl _ _⟩
  have W0 := Lib.hid w0
  have HF := Lib.hid hKF
  have HE := Lib.hid hET
  clear w0 hKF hET
  go_enter Tryz.func9, Tryz.ntmps9
  go_wp2_with fail
  refine (drawCD_any a0 len0 cap0 z0 _ W0.out).mono ?_
  rintro e y0 ⟨g, c, l, q, rfl, hT, l3, l8, hzs, hb⟩
  have K0 := Lib.hid ((Kn.start hb).new 25 (C5.cs q))
  have T0 := Lib.hid (hT.stay ((Below.refl _ _).alloc (Nat.le_refl _) (.cells (C5.cs q) 25)))
  have HZS := Lib.hid hzs
  have hz : l.length ≤ 1048576 := by omega
  clear W0 hb hT hzs
  obtain ⟨x, ans, hv⟩ : ∃ x ans, callV l q = (x, ans) := ⟨_, _, rfl⟩
  have HV := Lib.hid hv
  have HSX := Lib.hid (call_sm hv)
  clear hv
  go_wp2_with fail
  refine (specDo_val (s := ⟨some ⟨g, 0, none⟩, l.length, c⟩) HV.out _ T0.out hz HZS.out).mono ?_
  rintro e y1 ⟨s1, ts1, rfl, t1, hm1, hb⟩
  have K1 := Lib.hid (K0.out.stay hb)
  have T1 := Lib.hid (T0.out.stay hb)
  have X1 := Lib.hid (show HasT y1 s1 x from hm1 ▸ t1.hasT)
  clear hb t1 hm1 K0 T0
  have c0 := K1.out.c (b := y0.heap.size) (T := 25) (vs := C5.cs q) (by simp) 0 _ rfl
  have c1 := K1.out.c (b := y0.heap.size) (T := 25) (vs := C5.cs q) (by simp) 1 _ rfl
  have c2 := K1.out.c (b := y0.heap.size) (T := 25) (vs := C5.cs q) (by simp) 2 _ rfl
  have c3 := K1.out.c (b := y0.heap.size) (T := 25) (vs := C5.cs q) (by simp) 3 _ rfl
  have c4 := K1.out.c (b := y0.heap.size) (T := 25) (vs := C5.cs q) (by simp) 4 _ rfl
  go_wp2_with fail
  refine (implDo_val (s := ⟨some ⟨g, 0, none⟩, l.length, c⟩) HV.out _ T1.out (HF.out.stay K1.out.1) (HE.out.stay K1.out.1) hz).mono ?_
  rintro e y2 ⟨s2, ts2, rfl, t2, hm2, hb⟩
  have K2 := Lib.hid (K1.out.stay hb)
  have T2 := Lib.hid (T1.out.stay hb)
  have X2 := Lib.hid (X1.out.stay hb)
  have P2 := Lib.hid (show HasT y2 s2 x from hm2 ▸ t2.hasT)
  have HA2 := Lib.hid (show 0 < x.length → ∃ gx, s2.a = some ⟨gx, 0, none⟩ from fun h => by
    obtain ⟨gx, cur, e, -⟩ := t2.1.form (by have := congrArg List.length hm2; simp at this; omega)
    exact ⟨gx, e⟩)
  clear hb t2 hm2 K1 T1 X1 c0 c1 c2 c3 c4
  go_wp2_with fail
  refine (ldTable_same x s2 s1 _ P2.out X2.out HSX.out.1 HSX.out.2).mono ?_
  rintro e y3 ⟨rfl, hb⟩
  have K3 := Lib.hid (K2.out.stay hb)
  have T3 := Lib.hid (T2.out.stay hb)
  have X3 := Lib.hid (X2.out.stay hb)
  have P3 := Lib.hid (P2.out.stay hb)
  clear hb K2 T2 X2 P2
  have c0 := K3.out.c (b := y0.heap.size) (T := 25) (vs := C5.cs q) (by simp) 0 _ rfl
  have c1 := K3.out.c (b := y0.heap.size) (T := 25) (vs := C5.cs q) (by simp) 1 _ rfl
  have c2 := K3.out.c (b := y0.heap.size) (T := 25) (vs := C5.cs q) (by simp) 2 _ rfl
  have c3 := K3.out.c (b := y0.heap.size) (T := 25) (vs := C5.cs q) (by simp) 3 _ rfl
  have c4 := K3.out.c (b := y0.heap.size) (T := 25) (vs := C5.cs q) (by simp) 4 _ rfl
  go_wp2_with fail
  refine (ldCan_any l g l.length c q _ T3.out rfl (HF.out.stay K3.out.1) hz).mono ?_
  rintro e y4 ⟨v, rfl, hv, hb⟩
  have HVV := Lib.hid hv
  have K4 := Lib.hid (K3.out.stay hb)
  have T4 := Lib.hid (T3.out.stay hb)
  have X4 := Lib.hid (X3.out.stay hb)
  have P4 := Lib.hid (P3.out.stay hb)
  clear hb hv K3 T3 X3 P3 c0 c1 c2 c3 c4
  cases v
  · go_wp2_with fail
    refine (ldTable_same x s2 s1 _ P4.out X4.out HSX.out.1 HSX.out.2).mono ?_
    rintro e y5 ⟨rfl, hb⟩
    have HB := Lib.hid (K4.out.stay hb).1
    clear hb
    go_wp2
    go_ret
    exact ⟨rfl, HB.out⟩
  have HO := Lib.hid (HVV.out.1 rfl)
  have HXA := Lib.hid (show x = (doV l q).1 ∧ ans = (doV l q).2 by
    have := HV.out
    rw [callV_ok HO.out] at this
    rw [this]; exact ⟨rfl, rfl⟩)
  have hxl : x.length = l.length := by rw [HXA.out.1, do_len]
  obtain ⟨gx, hs2⟩ := HA2.out (by omega)
  have hsn : s2.n = l.length := by rw [P4.out.1, hxl]
  have HXL := Lib.hid hxl
  obtain ⟨s2a, s2n, cx⟩ := s2
  dsimp only at hs2 hsn
  subst hs2 hsn
  obtain ⟨jr, hjr, hcr, hth, hkr⟩ := HO.out.run
  have hbd := C5.bd HO.out.2
  obtain ⟨ck, cr, ca, cbb, cn⟩ := q
  dsimp only at *
  subst hcr
  obtain ⟨ja, rfl⟩ : ∃ ja : Nat, ca = ja := ⟨ca.toNat, by omega⟩
  obtain ⟨jb, rfl⟩ : ∃ jb : Nat, cbb = jb := ⟨cbb.toNat, by omega⟩
  have hja : ja < 4 := by omega
  have hjb : jb < 4 := by omega
  have hjr' : (jr : Int) < (l.length : Int) := by omega
  have hja' : (ja : Int) < 4 := by omega
  have hjb' : (jb : Int) < 4 := by omega
  have wr : wrap64 ((jr : Int) + 1 - 1) = (jr : Int) := by unfold wrap64; omega
  have wr2 : IntKind.i64.wrap (jr : Int) = (jr : Int) := IntWalk.i64_in _ (by omega)
  have HBD := Lib.hid hbd
  have HTH := Lib.hid hth
  have HKR := Lib.hid hkr
  clear hbd hth hkr hxl HA2 HV HVV X4 HZS
  have c0 := K4.out.c (b := y0.heap.size) (T := 25) (vs := C5.cs ⟨ck, (jr : Int) + 1, (ja : Int), (jb : Int), cn⟩) (by simp) 0 _ rfl
  have c1 := K4.out.c (b := y0.heap.size) (T := 25) (vs := C5.cs ⟨ck, (jr : Int) + 1, (ja : Int), (jb : Int), cn⟩) (by simp) 1 _ rfl
  have c2 := K4.out.c (b := y0.heap.size) (T := 25) (vs := C5.cs ⟨ck, (jr : Int) + 1, (ja : Int), (jb : Int), cn⟩) (by simp) 2 _ rfl
  have c3 := K4.out.c (b := y0.heap.size) (T := 25) (vs := C5.cs ⟨ck, (jr : Int) + 1, (ja : Int), (jb : Int), cn⟩) (by simp) 3 _ rfl
  have c4 := K4.out.c (b := y0.heap.size) (T := 25) (vs := C5.cs ⟨ck, (jr : Int) + 1, (ja : Int), (jb : Int), cn⟩) (by simp) 4 _ rfl
  by_cases hk1 : ¬ ck = 4
  · have hk1' : (ck == 4) = false := by simpa using hk1
    have hk1'' : (ck != 4) = true := by simpa using hk1
    clear hk1
    go_wp2
    go_ret
    exact ⟨rfl, K4.out.1⟩
  obtain rfl : ck = 4 := Classical.not_not.1 hk1
  clear hk1
  by_cases hneg : ans < 0
  · go_wp2
    go_ret
    exact ⟨rfl, K4.out.1⟩
  have hans0 : 0 ≤ ans := by omega
  have h0 := pass_of HO.out (by rw [← HXA.out.2]; exact hans0)
  obtain ⟨jo, hjo, hro, hnj⟩ := obj_get HO.out h0 (show (4 : Int) ≠ 3 by decide) hjr rfl
  have hjo' : (jo : Int) < (l.length : Int) := by omega
  have wo : wrap64 ((jo : Int) + 1 - 1) = (jo : Int) := by unfold wrap64; omega
  have wo2 : IntKind.i64.wrap (jo : Int) = (jo : Int) := IntWalk.i64_in _ (by omega)
  have HH0 := Lib.hid h0
  have HRO := Lib.hid hro
  have HNJ := Lib.hid hnj
  clear h0 hro hnj
  obtain ⟨jr1, ja1, hjr1, rb, ro, sc, qs, er1, ea1, -, eth1, hA, hB, -⟩ := slot_at T4.out HO.out.1 HO.out.2
  obtain rfl : jr = jr1 := by dsimp only at er1; omega
  obtain rfl : ja = ja1 := by dsimp only at ea1; omega
  obtain ⟨r, hr⟩ : ∃ r, rOf l ⟨4, (jr : Int) + 1, (ja : Int), (jb : Int), cn⟩ = r := ⟨_, rfl⟩
  have hBr : At y4 rb (ro + ja * 5) r.cs := by rw [← hr]; exact hB
  obtain ⟨rt, rv, rr, rw_, rk⟩ := r
  have HR := Lib.hid hr
  have f5 : y4.cell? ⟨g, jr * 8 + 5, none⟩ = some (.slice (some ⟨rb, ro, none⟩) 4 sc) := hA 5 _ rfl
  have g0' : y4.cell? ⟨rb, ro + ja * 5, none⟩ = some (.int .i64 rt) := hBr 0 _ rfl
  have g1 : y4.cell? ⟨rb, ro + ja * 5 + 1, none⟩ = some (.int .i64 rv) := hBr 1 _ rfl
  have g2 : y4.cell? ⟨rb, ro + ja * 5 + 2, none⟩ = some (.bool rr) := hBr 2 _ rfl
  have g3 : y4.cell? ⟨rb, ro + ja * 5 + 3, none⟩ = some (.bool rw_) := hBr 3 _ rfl
  have g4 : y4.cell? ⟨rb, ro + ja * 5 + 4, none⟩ = some (.bool rk) := hBr 4 _ rfl
  have hbl1 := cell_lt f5
  have hbl2 := cell_lt g0'
  have hbl3 := cell_lt c0
  clear hA hB hBr hr er1 ea1 eth1
  go_upto_region 10 with fail
  go_region
  have K5 := Lib.hid ((K4.out.new 42 (R5.cs ⟨rt, rv, rr, rw_, rk⟩)).drew)
  have B5 := Lib.hid (((Below.refl y4.heap.size y4).alloc (Nat.le_refl _) (.cells (R5.cs ⟨rt, rv, rr, rw_, rk⟩) 42)).drew)
  have T5 := Lib.hid (T4.out.stay B5.out)
  have P5 := Lib.hid (P4.out.stay B5.out)
  obtain ⟨Y, hY⟩ : ∃ Y, (y4.alloc (.cells (R5.cs ⟨rt, rv, rr, rw_, rk⟩) 42)).drew = Y := ⟨_, rfl⟩
  rw [hY] at K5 B5 T5 P5 ⊢
  clear hY K4 T4 P4 f5 g0' g1 g2 g3 g4 c0 c1 c2 c3 c4
  have hrt : rt = (jo : Int) + 1 := by have := HRO.out; rw [HR.out] at this; exact this
  subst hrt
  have HL4 := Lib.hid (node_of HO.out HH0.out (.inl rfl) hjo (by rw [HR.out]))
  have HX4 := Lib.hid (show (x[jr]'(by rw [HXL.out]; exact hjr)).slots.length = 4 by
    rw [get_of HXA.out.1 (i := jr) (by rw [HXL.out]; exact hjr), (do_fetch HO.out rfl (by rw [← HXA.out.2]; exact hans0) hjr rfl hjo (by rw [HR.out])).2.1]
    dsimp only
    rw [List.length_set]
    exact run4 HO.out hjr rfl)
  have hdf := do_fetch HO.out rfl (by rw [← HXA.out.2]; exact hans0) hjr rfl hjo (by rw [HR.out])
  have HXJ := Lib.hid (show x[jo]'(by rw [HXL.out]; exact hjo) = l[jo]'hjo by
    rw [get_of HXA.out.1 (i := jo) (by rw [HXL.out]; exact hjo)]; exact hdf.2.2)
  have HXB0 := Lib.hid (show (x[jr]'(by rw [HXL.out]; exact hjr)).slots[jb]'(by rw [HX4.out]; exact hjb) = gotR l ⟨4, (jr : Int) + 1, (ja : Int), (jb : Int), cn⟩ by
    have e1 : x[jr]'(by rw [HXL.out]; exact hjr) = { l[jr]'hjr with num := 0, slots := (l[jr]'hjr).slots.set jb (gotR l ⟨4, (jr : Int) + 1, (ja : Int), (jb : Int), cn⟩) } := by
      rw [get_of HXA.out.1 (i := jr) (by rw [HXL.out]; exact hjr)]
      have := hdf.2.1
      dsimp only at this
      rw [this]
      rfl
    simp only [e1, List.getElem_set_self])
  have ha0 : ans = 0 := HXA.out.2.trans hdf.1
  subst ha0
  clear hdf
  obtain ⟨jn, hjn, hrem⟩ : ∃ jn : Nat, jn < 4 ∧ Int.tmod cn 4 = (jn : Int) := ⟨(cn % 4).toNat, by omega, tmod_of HBD.out.2.2.2.2.1 4 (by decide)⟩
  have hjn' : (jn : Int) < 4 := by omega
  obtain ⟨fz, hfz⟩ : ∃ fz, (l[jo]'hjo).slots[jn]'(by rw [HL4.out]; exact hjn) = fz := ⟨_, rfl⟩
  have HFZ := Lib.hid hfz
  have HGOT := Lib.hid (show gotR l ⟨4, (jr : Int) + 1, (ja : Int), (jb : Int), cn⟩ = if rk then lessR fz true false false else fz by
    unfold gotR
    rw [HR.out]
    dsimp only
    rw [thAt_of hjo (show (jo : Int) + 1 - 1 = jo by omega), slotAt_of (j := jn) (by rw [HL4.out]; exact hjn) (by
      have := HBD.out.2.2.2.2
      rw [← hrem, Int.tmod_eq_emod_of_nonneg this.1]), hfz])
  clear hfz
  obtain ⟨Y0, hY0⟩ : ∃ Y0, Y = Y0 := ⟨_, rfl⟩
  subst hY0
  have c4 := K5.out.c (b := y0.heap.size) (T := 25) (vs := C5.cs ⟨4, (jr : Int) + 1, (ja : Int), (jb : Int), cn⟩) (by simp) 4 _ rfl
  have r0 := K5.out.c (b := y4.heap.size) (T := 42) (vs := R5.cs ⟨(jo : Int) + 1, rv, rr, rw_, rk⟩) (by simp) 0 _ rfl
  have hlc4 := cell_lt c4
  have hlr0 := cell_lt r0
  obtain ⟨fzt, fzv, fzr, fzw, fzk⟩ := fz
  obtain ⟨rbn, ron, scn, fsn, hBn⟩ := slot_get T5.out hjo HL4.out hjn
  rw [HFZ.out] at hBn
  have bn0 : Y.cell? ⟨rbn, ron + jn * 5, none⟩ = some (.int .i64 fzt) := hBn 0 _ rfl
  have bn1 : Y.cell? ⟨rbn, ron + jn * 5 + 1, none⟩ = some (.int .i64 fzv) := hBn 1 _ rfl
  have bn2 : Y.cell? ⟨rbn, ron + jn * 5 + 2, none⟩ = some (.bool fzr) := hBn 2 _ rfl
  have bn3 : Y.cell? ⟨rbn, ron + jn * 5 + 3, none⟩ = some (.bool fzw) := hBn 3 _ rfl
  have bn4 : Y.cell? ⟨rbn, ron + jn * 5 + 4, none⟩ = some (.bool fzk) := hBn 4 _ rfl
  have ln1 := cell_lt fsn
  have ln2 := cell_lt bn0
  clear hBn
  go_upto_region 11 with fail
  go_region
  obtain ⟨Y1, hYn⟩ : ∃ Y', (Y.alloc (.cells (R5.cs ⟨fzt, fzv, fzr, fzw, fzk⟩) 42)).drew = Y' := ⟨_, rfl⟩
  try rw [hYn]
  have Nn := Lib.hid (show Box Y1 Y.heap.size 42 (R5.cs ⟨fzt, fzv, fzr, fzw, fzk⟩) from hYn ▸ (Box.fresh Y 42 (R5.cs ⟨fzt, fzv, fzr, fzw, fzk⟩)).drew)
  have Bn := Lib.hid (show Below Y.heap.size Y Y1 from hYn ▸ ((Below.refl _ _).alloc (Nat.le_refl _) _).drew)
  clear hYn fsn bn0 bn1 bn2 bn3 bn4
  clear c4 r0 hrem
  have HK5 := Lib.hid ((K5.out.stay Bn.out).box (b := y4.heap.size) (T := 42) (vs := R5.cs ⟨(jo : Int) + 1, rv, rr, rw_, rk⟩) (by simp))
  cases rk
  · as_aux_lemma =>
      have r4 := HK5.out.cell 4 _ rfl
      obtain ⟨got, hgot⟩ : ∃ got, gotR l ⟨4, (jr : Int) + 1, (ja : Int), (jb : Int), cn⟩ = got := ⟨_, rfl⟩
      have HXB := Lib.hid (HXB0.out.trans hgot)
      have HG := Lib.hid (show got = ⟨fzt, fzv, fzr, fzw, fzk⟩ by rw [← hgot, HGOT.out]; rfl)
      have NN := Lib.hid (show Box Y1 Y.heap.size 42 (R5.cs got) by rw [HG.out]; exact Nn.out)
      clear hgot
      have PW := Lib.hid (P5.out.stay Bn.out)
      have KW := Lib.hid (K5.out.stay Bn.out)
      have c1 := KW.out.c (b := y0.heap.size) (T := 25) (vs := C5.cs ⟨4, (jr : Int) + 1, (ja : Int), (jb : Int), cn⟩) (by simp) 1 _ rfl
      have c3 := KW.out.c (b := y0.heap.size) (T := 25) (vs := C5.cs ⟨4, (jr : Int) + 1, (ja : Int), (jb : Int), cn⟩) (by simp) 3 _ rfl
      have hlc := cell_lt c1
      obtain ⟨rby, roy, scy, fsy, hBy⟩ := slot_get PW.out (by rw [HXL.out]; exact hjr) HX4.out hjb
      rw [HXB.out] at hBy
      have by0 : Y1.cell? ⟨rby, roy + jb * 5, none⟩ = some (.int .i64 (got).t) := hBy 0 _ rfl
      have by1 : Y1.cell? ⟨rby, roy + jb * 5 + 1, none⟩ = some (.int .i64 (got).v) := hBy 1 _ rfl
      have by2 : Y1.cell? ⟨rby, roy + jb * 5 + 2, none⟩ = some (.bool (got).r) := hBy 2 _ rfl
      have by3 : Y1.cell? ⟨rby, roy + jb * 5 + 3, none⟩ = some (.bool (got).w) := hBy 3 _ rfl
      have by4 : Y1.cell? ⟨rby, roy + jb * 5 + 4, none⟩ = some (.bool (got).k) := hBy 4 _ rfl
      have ly1 := cell_lt fsy
      have ly2 := cell_lt by0
      clear hBy
      go_upto_region 14 with fail
      go_region
      obtain ⟨V, hYy⟩ : ∃ Y', (Y1.alloc (.cells (R5.cs got) 42)).drew = Y' := ⟨_, rfl⟩
      try rw [hYy]
      have Ny := Lib.hid (show Box V Y1.heap.size 42 (R5.cs got) from hYy ▸ (Box.fresh Y1 42 (R5.cs got)).drew)
      have By := Lib.hid (show Below Y1.heap.size Y1 V from hYy ▸ ((Below.refl _ _).alloc (Nat.le_refl _) _).drew)
      clear hYy fsy by0 by1 by2 by3 by4
      have BV := Lib.hid (show Below Y.heap.size Y V from Bn.out.trans (By.out.mono Bn.out.size))
      have ZW := Lib.hid (show Y.heap.size ≤ Y1.heap.size from Bn.out.size)
      obtain ⟨sx, qx, hRx, hQx, hAx⟩ := (P5.out.stay BV.out).cells (i := jo) (by rw [HXL.out]; exact hjo)
      rw [HXJ.out] at hRx hQx hAx
      obtain ⟨ss, qs, hRs, hQs, hAs⟩ := (T5.out.stay BV.out).cells hjo
      obtain ⟨z, hz'⟩ : ∃ z, l[jo]'hjo = z := ⟨_, rfl⟩
      have hsm := get_set_sm (fun i hi => by have := (tab_small HO.out.tab).2 i hi; omega) hjo hz'
      rw [hz'] at hRs hQs hAs hRx hQx hAx
      have NV := Lib.hid (NN.out.stay By.out)
      obtain ⟨gt, gv, gr, gw, gk⟩ := got
      have e0 : V.cell? ⟨gx, jo * 8, none⟩ = some (.int .i64 z.kind) := hAx 0 _ rfl
      have e1 : V.cell? ⟨gx, jo * 8 + 1, none⟩ = some (.int .i64 z.sec) := hAx 1 _ rfl
      have e2 : V.cell? ⟨gx, jo * 8 + 2, none⟩ = some (.int .i64 z.vou) := hAx 2 _ rfl
      have e3 : V.cell? ⟨gx, jo * 8 + 3, none⟩ = some (.int .i64 z.vers) := hAx 3 _ rfl
      have e4 : V.cell? ⟨gx, jo * 8 + 4, none⟩ = some (.int .i64 z.num) := hAx 4 _ rfl
      have e5 : V.cell? ⟨gx, jo * 8 + 5, none⟩ = some (.slice sx.a sx.n sx.c) := hAx 5 _ rfl
      have e6 : V.cell? ⟨gx, jo * 8 + 6, none⟩ = some (.slice qx.a qx.n qx.c) := hAx 6 _ rfl
      have e7 : V.cell? ⟨gx, jo * 8 + 7, none⟩ = some (.int .i64 z.to) := hAx 7 _ rfl
      have d0 : V.cell? ⟨g, jo * 8, none⟩ = some (.int .i64 z.kind) := hAs 0 _ rfl
      have d1 : V.cell? ⟨g, jo * 8 + 1, none⟩ = some (.int .i64 z.sec) := hAs 1 _ rfl
      have d2 : V.cell? ⟨g, jo * 8 + 2, none⟩ = some (.int .i64 z.vou) := hAs 2 _ rfl
      have d3 : V.cell? ⟨g, jo * 8 + 3, none⟩ = some (.int .i64 z.vers) := hAs 3 _ rfl
      have d4 : V.cell? ⟨g, jo * 8 + 4, none⟩ = some (.int .i64 z.num) := hAs 4 _ rfl
      have d5 : V.cell? ⟨g, jo * 8 + 5, none⟩ = some (.slice ss.a ss.n ss.c) := hAs 5 _ rfl
      have d6 : V.cell? ⟨g, jo * 8 + 6, none⟩ = some (.slice qs.a qs.n qs.c) := hAs 6 _ rfl
      have d7 : V.cell? ⟨g, jo * 8 + 7, none⟩ = some (.int .i64 z.to) := hAs 7 _ rfl
      have m0 : V.cell? ⟨Y1.heap.size, 0, none⟩ = some (.int .i64 gt) := Ny.out.cell 0 _ rfl
      have m1 : V.cell? ⟨Y1.heap.size, 1, none⟩ = some (.int .i64 gv) := Ny.out.cell 1 _ rfl
      have m2 : V.cell? ⟨Y1.heap.size, 2, none⟩ = some (.bool gr) := Ny.out.cell 2 _ rfl
      have m3 : V.cell? ⟨Y1.heap.size, 3, none⟩ = some (.bool gw) := Ny.out.cell 3 _ rfl
      have m4 : V.cell? ⟨Y1.heap.size, 4, none⟩ = some (.bool gk) := Ny.out.cell 4 _ rfl
      have n0 : V.cell? ⟨Y.heap.size, 0, none⟩ = some (.int .i64 gt) := NV.out.cell 0 _ rfl
      have n1 : V.cell? ⟨Y.heap.size, 1, none⟩ = some (.int .i64 gv) := NV.out.cell 1 _ rfl
      have n2 : V.cell? ⟨Y.heap.size, 2, none⟩ = some (.bool gr) := NV.out.cell 2 _ rfl
      have n3 : V.cell? ⟨Y.heap.size, 3, none⟩ = some (.bool gw) := NV.out.cell 3 _ rfl
      have n4 : V.cell? ⟨Y.heap.size, 4, none⟩ = some (.bool gk) := NV.out.cell 4 _ rfl
      have r0 : V.cell? ⟨y4.heap.size, 0, none⟩ = some (.int .i64 ((jo : Int) + 1)) := ((K5.out.stay BV.out).box (b := y4.heap.size) (T := 42) (vs := R5.cs ⟨(jo : Int) + 1, rv, rr, rw_, false⟩) (by simp)).cell 0 _ rfl
      have r4 : V.cell? ⟨y4.heap.size, 4, none⟩ = some (.bool false) := ((K5.out.stay BV.out).box (b := y4.heap.size) (T := 42) (vs := R5.cs ⟨(jo : Int) + 1, rv, rr, rw_, false⟩) (by simp)).cell 4 _ rfl
      have HLD := Lib.hid (fun zz : Wd (Kn V []) => ldThing_same z sx qx ss qs zz.w (hRx.stay zz.ok.1) (hQx.stay zz.ok.1) (hRs.stay zz.ok.1) (hQs.stay zz.ok.1) hsm.1 hsm.2)
      have HBW := Lib.hid (K5.out.stay BV.out).1
      clear hRx hQx hAx hRs hQs hAs hz' hsm c1 c3
      as_aux_lemma =>
        have qe0 := fun zz : Wd (Kn V []) => stayCell e0 zz.ok.1
        have qe1 := fun zz : Wd (Kn V []) => stayCell e1 zz.ok.1
        have qe2 := fun zz : Wd (Kn V []) => stayCell e2 zz.ok.1
        have qe3 := fun zz : Wd (Kn V []) => stayCell e3 zz.ok.1
        have qe4 := fun zz : Wd (Kn V []) => stayCell e4 zz.ok.1
        have qe5 := fun zz : Wd (Kn V []) => stayCell e5 zz.ok.1
        have qe6 := fun zz : Wd (Kn V []) => stayCell e6 zz.ok.1
        have qe7 := fun zz : Wd (Kn V []) => stayCell e7 zz.ok.1
        have qd0 := fun zz : Wd (Kn V []) => stayCell d0 zz.ok.1
        have qd1 := fun zz : Wd (Kn V []) => stayCell d1 zz.ok.1
        have qd2 := fun zz : Wd (Kn V []) => stayCell d2 zz.ok.1
        have qd3 := fun zz : Wd (Kn V []) => stayCell d3 zz.ok.1
        have qd4 := fun zz : Wd (Kn V []) => stayCell d4 zz.ok.1
        have qd5 := fun zz : Wd (Kn V []) => stayCell d5 zz.ok.1
        have qd6 := fun zz : Wd (Kn V []) => stayCell d6 zz.ok.1
        have qd7 := fun zz : Wd (Kn V []) => stayCell d7 zz.ok.1
        have qm0 := fun zz : Wd (Kn V []) => stayCell m0 zz.ok.1
        have qm1 := fun zz : Wd (Kn V []) => stayCell m1 zz.ok.1
        have qm2 := fun zz : Wd (Kn V []) => stayCell m2 zz.ok.1
        have qm3 := fun zz : Wd (Kn V []) => stayCell m3 zz.ok.1
        have qm4 := fun zz : Wd (Kn V []) => stayCell m4 zz.ok.1
        have qn0 := fun zz : Wd (Kn V []) => stayCell n0 zz.ok.1
        have qn1 := fun zz : Wd (Kn V []) => stayCell n1 zz.ok.1
        have qn2 := fun zz : Wd (Kn V []) => stayCell n2 zz.ok.1
        have qn3 := fun zz : Wd (Kn V []) => stayCell n3 zz.ok.1
        have qn4 := fun zz : Wd (Kn V []) => stayCell n4 zz.ok.1
        have qr0 := fun zz : Wd (Kn V []) => stayCell r0 zz.ok.1
        have qr4 := fun zz : Wd (Kn V []) => stayCell r4 zz.ok.1
        have ne : Nonempty (Wd (Kn V [])) := ⟨⟨_, (Kn.refl (w := V)).drew⟩⟩
        clear e0 e1 e2 e3 e4 e5 e6 e7 d0 d1 d2 d3 d4 d5 d6 d7 m0 m1 m2 m3 m4 n0 n1 n2 n3 n4 r0 r4
        go_upto_region 15 with fail
        refine wp_region_quiet (C := fun y => ∃ zz : Wd (Kn V []), y = zz.w) (by kernel_rfl) (by kernel_rfl) ⟨⟨_, (Kn.refl (w := V)).drew⟩, rfl⟩ ?_
        show wpQuiet _ _ _ _ [_, _, _, _, _, _, _, _, _, _, _, _, _, _, _, _, _, _, _, _, _, _, _, _, _, _, _, _, _, _, _, _, _] _
        repeat (first | go_big_quiet_step ((go_at_call 24; with_reducible exact inCls Kn.stay (HLD.out _))) | quiet_step ((go_at_call 24; with_reducible exact inCls Kn.stay (HLD.out _))))
        refine wpQuiet_nil ?_
        rintro _ ⟨⟨y9, K9⟩, rfl⟩
        have HB2 := Lib.hid (HBW.out.trans (K9.1.mono HBW.out.size))
        clear ne qe0 qe1 qe2 qe3 qe4 qe5 qe6 qe7 qd0 qd1 qd2 qd3 qd4 qd5 qd6 qd7 qm0 qm1 qm2 qm3 qm4 qn0 qn1 qn2 qn3 qn4 qr0 qr4 K9 HLD
        go_wp2
        go_ret
        exact ⟨rfl, HB2.out⟩
  · as_aux_lemma =>
      have r4 := HK5.out.cell 4 _ rfl
      have n0 := Nn.out.cell 0 _ rfl
      have n1 := Nn.out.cell 1 _ rfl
      have n2 := Nn.out.cell 2 _ rfl
      have n3 := Nn.out.cell 3 _ rfl
      have n4 := Nn.out.cell 4 _ rfl
      obtain ⟨got, hgot⟩ : ∃ got, gotR l ⟨4, (jr : Int) + 1, (ja : Int), (jb : Int), cn⟩ = got := ⟨_, rfl⟩
      have HXB := Lib.hid (HXB0.out.trans hgot)
      have HG := Lib.hid (show got = lessR ⟨fzt, fzv, fzr, fzw, fzk⟩ true false false by rw [← hgot, HGOT.out]; rfl)
      have HGW := Lib.hid (show got.w = false by rw [HG.out]; exact lessR_w _)
      clear hgot
      go_wp2_with fail
      refine (implLess_any fzt fzv fzr fzw fzk true false false _).mono ?_
      rintro e y8 ⟨rfl, hb⟩
      have B8 := Lib.hid (show Below Y.heap.size Y y8 from Bn.out.trans (hb.mono Bn.out.size))
      have b8 := Nn.out.stay hb
      have n0 := b8.cell 0 _ rfl
      have n1 := b8.cell 1 _ rfl
      have n2 := b8.cell 2 _ rfl
      have n3 := b8.cell 3 _ rfl
      have n4 := b8.cell 4 _ rfl
      have f0 := b8.thaw 0
      have f1 := b8.thaw 1
      have f2 := b8.thaw 2
      have f3 := b8.thaw 3
      have f4 := b8.thaw 4
      obtain ⟨h1, h2⟩ := kn_right B8.out (Nat.le_refl _) b8 (lessR ⟨fzt, fzv, fzr, fzw, fzk⟩ true false false)
      rw [show lessV fzt fzv fzr fzw fzk true false false = (lessR ⟨fzt, fzv, fzr, fzw, fzk⟩ true false false).val from rfl]
      rw [← HG.out] at h1 h2 ⊢
      obtain ⟨Y2, hY2⟩ : ∃ Y2, (((((y8.setCell ⟨Y.heap.size, 0, none⟩ (.int .i64 got.t)).setCell ⟨Y.heap.size, 1, none⟩ (.int .i64 got.v)).setCell ⟨Y.heap.size, 2, none⟩ (.bool got.r)).setCell ⟨Y.heap.size, 3, none⟩ (.bool got.w)).setCell ⟨Y.heap.size, 4, none⟩ (.bool got.k)) = Y2 := ⟨_, rfl⟩
      rw [hY2] at h1 h2
      have BN2 := Lib.hid h1
      have NN := Lib.hid h2
      clear h1 h2 hb b8 r4
      have PW := Lib.hid (P5.out.stay BN2.out)
      have KW := Lib.hid (K5.out.stay BN2.out)
      have c1 := KW.out.c (b := y0.heap.size) (T := 25) (vs := C5.cs ⟨4, (jr : Int) + 1, (ja : Int), (jb : Int), cn⟩) (by simp) 1 _ rfl
      have c3 := KW.out.c (b := y0.heap.size) (T := 25) (vs := C5.cs ⟨4, (jr : Int) + 1, (ja : Int), (jb : Int), cn⟩) (by simp) 3 _ rfl
      have hlc := cell_lt c1
      obtain ⟨rby, roy, scy, fsy, hBy⟩ := slot_get PW.out (by rw [HXL.out]; exact hjr) HX4.out hjb
      rw [HXB.out] at hBy
      have by0 : Y2.cell? ⟨rby, roy + jb * 5, none⟩ = some (.int .i64 (got).t) := hBy 0 _ rfl
      have by1 : Y2.cell? ⟨rby, roy + jb * 5 + 1, none⟩ = some (.int .i64 (got).v) := hBy 1 _ rfl
      have by2 : Y2.cell? ⟨rby, roy + jb * 5 + 2, none⟩ = some (.bool (got).r) := hBy 2 _ rfl
      have by3 : Y2.cell? ⟨rby, roy + jb * 5 + 3, none⟩ = some (.bool (got).w) := hBy 3 _ rfl
      have by4 : Y2.cell? ⟨rby, roy + jb * 5 + 4, none⟩ = some (.bool (got).k) := hBy 4 _ rfl
      have ly1 := cell_lt fsy
      have ly2 := cell_lt by0
      clear hBy
      go_upto_region 14 with fail
      try rw [hY2]
      clear hY2 n0 n1 n2 n3 n4 f0 f1 f2 f3 f4
      go_region
      obtain ⟨V, hYy⟩ : ∃ Y', (Y2.alloc (.cells (R5.cs got) 42)).drew = Y' := ⟨_, rfl⟩
      try rw [hYy]
      have Ny := Lib.hid (show Box V Y2.heap.size 42 (R5.cs got) from hYy ▸ (Box.fresh Y2 42 (R5.cs got)).drew)
      have By := Lib.hid (show Below Y2.heap.size Y2 V from hYy ▸ ((Below.refl _ _).alloc (Nat.le_refl _) _).drew)
      clear hYy fsy by0 by1 by2 by3 by4
      have BV := Lib.hid (show Below Y.heap.size Y V from BN2.out.trans (By.out.mono BN2.out.size))
      have ZW := Lib.hid (show Y.heap.size ≤ Y2.heap.size from BN2.out.size)
      obtain ⟨sx, qx, hRx, hQx, hAx⟩ := (P5.out.stay BV.out).cells (i := jo) (by rw [HXL.out]; exact hjo)
      rw [HXJ.out] at hRx hQx hAx
      obtain ⟨ss, qs, hRs, hQs, hAs⟩ := (T5.out.stay BV.out).cells hjo
      obtain ⟨z, hz'⟩ : ∃ z, l[jo]'hjo = z := ⟨_, rfl⟩
      have hsm := get_set_sm (fun i hi => by have := (tab_small HO.out.tab).2 i hi; omega) hjo hz'
      rw [hz'] at hRs hQs hAs hRx hQx hAx
      have NV := Lib.hid (NN.out.stay By.out)
      obtain ⟨gt, gv, gr, gw, gk⟩ := got
      have e0 : V.cell? ⟨gx, jo * 8, none⟩ = some (.int .i64 z.kind) := hAx 0 _ rfl
      have e1 : V.cell? ⟨gx, jo * 8 + 1, none⟩ = some (.int .i64 z.sec) := hAx 1 _ rfl
      have e2 : V.cell? ⟨gx, jo * 8 + 2, none⟩ = some (.int .i64 z.vou) := hAx 2 _ rfl
      have e3 : V.cell? ⟨gx, jo * 8 + 3, none⟩ = some (.int .i64 z.vers) := hAx 3 _ rfl
      have e4 : V.cell? ⟨gx, jo * 8 + 4, none⟩ = some (.int .i64 z.num) := hAx 4 _ rfl
      have e5 : V.cell? ⟨gx, jo * 8 + 5, none⟩ = some (.slice sx.a sx.n sx.c) := hAx 5 _ rfl
      have e6 : V.cell? ⟨gx, jo * 8 + 6, none⟩ = some (.slice qx.a qx.n qx.c) := hAx 6 _ rfl
      have e7 : V.cell? ⟨gx, jo * 8 + 7, none⟩ = some (.int .i64 z.to) := hAx 7 _ rfl
      have d0 : V.cell? ⟨g, jo * 8, none⟩ = some (.int .i64 z.kind) := hAs 0 _ rfl
      have d1 : V.cell? ⟨g, jo * 8 + 1, none⟩ = some (.int .i64 z.sec) := hAs 1 _ rfl
      have d2 : V.cell? ⟨g, jo * 8 + 2, none⟩ = some (.int .i64 z.vou) := hAs 2 _ rfl
      have d3 : V.cell? ⟨g, jo * 8 + 3, none⟩ = some (.int .i64 z.vers) := hAs 3 _ rfl
      have d4 : V.cell? ⟨g, jo * 8 + 4, none⟩ = some (.int .i64 z.num) := hAs 4 _ rfl
      have d5 : V.cell? ⟨g, jo * 8 + 5, none⟩ = some (.slice ss.a ss.n ss.c) := hAs 5 _ rfl
      have d6 : V.cell? ⟨g, jo * 8 + 6, none⟩ = some (.slice qs.a qs.n qs.c) := hAs 6 _ rfl
      have d7 : V.cell? ⟨g, jo * 8 + 7, none⟩ = some (.int .i64 z.to) := hAs 7 _ rfl
      have m0 : V.cell? ⟨Y2.heap.size, 0, none⟩ = some (.int .i64 gt) := Ny.out.cell 0 _ rfl
      have m1 : V.cell? ⟨Y2.heap.size, 1, none⟩ = some (.int .i64 gv) := Ny.out.cell 1 _ rfl
      have m2 : V.cell? ⟨Y2.heap.size, 2, none⟩ = some (.bool gr) := Ny.out.cell 2 _ rfl
      have m3 : V.cell? ⟨Y2.heap.size, 3, none⟩ = some (.bool gw) := Ny.out.cell 3 _ rfl
      have m4 : V.cell? ⟨Y2.heap.size, 4, none⟩ = some (.bool gk) := Ny.out.cell 4 _ rfl
      have n0 : V.cell? ⟨Y.heap.size, 0, none⟩ = some (.int .i64 gt) := NV.out.cell 0 _ rfl
      have n1 : V.cell? ⟨Y.heap.size, 1, none⟩ = some (.int .i64 gv) := NV.out.cell 1 _ rfl
      have n2 : V.cell? ⟨Y.heap.size, 2, none⟩ = some (.bool gr) := NV.out.cell 2 _ rfl
      have n3 : V.cell? ⟨Y.heap.size, 3, none⟩ = some (.bool gw) := NV.out.cell 3 _ rfl
      have n4 : V.cell? ⟨Y.heap.size, 4, none⟩ = some (.bool gk) := NV.out.cell 4 _ rfl
      have r0 : V.cell? ⟨y4.heap.size, 0, none⟩ = some (.int .i64 ((jo : Int) + 1)) := ((K5.out.stay BV.out).box (b := y4.heap.size) (T := 42) (vs := R5.cs ⟨(jo : Int) + 1, rv, rr, rw_, true⟩) (by simp)).cell 0 _ rfl
      have r4 : V.cell? ⟨y4.heap.size, 4, none⟩ = some (.bool true) := ((K5.out.stay BV.out).box (b := y4.heap.size) (T := 42) (vs := R5.cs ⟨(jo : Int) + 1, rv, rr, rw_, true⟩) (by simp)).cell 4 _ rfl
      have HLD := Lib.hid (fun zz : Wd (Kn V []) => ldThing_same z sx qx ss qs zz.w (hRx.stay zz.ok.1) (hQx.stay zz.ok.1) (hRs.stay zz.ok.1) (hQs.stay zz.ok.1) hsm.1 hsm.2)
      have HBW := Lib.hid (K5.out.stay BV.out).1
      clear hRx hQx hAx hRs hQs hAs hz' hsm c1 c3
      have hgw : gw = false := HGW.out
      subst hgw
      as_aux_lemma =>
        have qe0 := fun zz : Wd (Kn V []) => stayCell e0 zz.ok.1
        have qe1 := fun zz : Wd (Kn V []) => stayCell e1 zz.ok.1
        have qe2 := fun zz : Wd (Kn V []) => stayCell e2 zz.ok.1
        have qe3 := fun zz : Wd (Kn V []) => stayCell e3 zz.ok.1
        have qe4 := fun zz : Wd (Kn V []) => stayCell e4 zz.ok.1
        have qe5 := fun zz : Wd (Kn V []) => stayCell e5 zz.ok.1
        have qe6 := fun zz : Wd (Kn V []) => stayCell e6 zz.ok.1
        have qe7 := fun zz : Wd (Kn V []) => stayCell e7 zz.ok.1
        have qd0 := fun zz : Wd (Kn V []) => stayCell d0 zz.ok.1
        have qd1 := fun zz : Wd (Kn V []) => stayCell d1 zz.ok.1
        have qd2 := fun zz : Wd (Kn V []) => stayCell d2 zz.ok.1
        have qd3 := fun zz : Wd (Kn V []) => stayCell d3 zz.ok.1
        have qd4 := fun zz : Wd (Kn V []) => stayCell d4 zz.ok.1
        have qd5 := fun zz : Wd (Kn V []) => stayCell d5 zz.ok.1
        have qd6 := fun zz : Wd (Kn V []) => stayCell d6 zz.ok.1
        have qd7 := fun zz : Wd (Kn V []) => stayCell d7 zz.ok.1
        have qm0 := fun zz : Wd (Kn V []) => stayCell m0 zz.ok.1
        have qm1 := fun zz : Wd (Kn V []) => stayCell m1 zz.ok.1
        have qm2 := fun zz : Wd (Kn V []) => stayCell m2 zz.ok.1
        have qm3 := fun zz : Wd (Kn V []) => stayCell m3 zz.ok.1
        have qm4 := fun zz : Wd (Kn V []) => stayCell m4 zz.ok.1
        have qn0 := fun zz : Wd (Kn V []) => stayCell n0 zz.ok.1
        have qn1 := fun zz : Wd (Kn V []) => stayCell n1 zz.ok.1
        have qn2 := fun zz : Wd (Kn V []) => stayCell n2 zz.ok.1
        have qn3 := fun zz : Wd (Kn V []) => stayCell n3 zz.ok.1
        have qn4 := fun zz : Wd (Kn V []) => stayCell n4 zz.ok.1
        have qr0 := fun zz : Wd (Kn V []) => stayCell r0 zz.ok.1
        have qr4 := fun zz : Wd (Kn V []) => stayCell r4 zz.ok.1
        have ne : Nonempty (Wd (Kn V [])) := ⟨⟨_, (Kn.refl (w := V)).drew⟩⟩
        clear e0 e1 e2 e3 e4 e5 e6 e7 d0 d1 d2 d3 d4 d5 d6 d7 m0 m1 m2 m3 m4 n0 n1 n2 n3 n4 r0 r4
        go_upto_region 15 with fail
        refine wp_region_quiet (C := fun y => ∃ zz : Wd (Kn V []), y = zz.w) (by kernel_rfl) (by kernel_rfl) ⟨⟨_, (Kn.refl (w := V)).drew⟩, rfl⟩ ?_
        show wpQuiet _ _ _ _ [_, _, _, _, _, _, _, _, _, _, _, _, _, _, _, _, _, _, _, _, _, _, _, _, _, _, _, _, _, _, _, _, _] _
        repeat (first | go_big_quiet_step ((go_at_call 24; with_reducible exact inCls Kn.stay (HLD.out _))) | quiet_step ((go_at_call 24; with_reducible exact inCls Kn.stay (HLD.out _))))
        refine wpQuiet_nil ?_
        rintro _ ⟨⟨y9, K9⟩, rfl⟩
        have HB2 := Lib.hid (HBW.out.trans (K9.1.mono HBW.out.size))
        clear ne qe0 qe1 qe2 qe3 qe4 qe5 qe6 qe7 qd0 qd1 qd2 qd3 qd4 qd5 qd6 qd7 qm0 qm1 qm2 qm3 qm4 qn0 qn1 qn2 qn3 qn4 qr0 qr4 K9 HLD
        go_wp2
        go_ret
        exact ⟨rfl, HB2.out⟩
end Go.Proofs.YtgpiclngkmjnpaaGreatDoor
