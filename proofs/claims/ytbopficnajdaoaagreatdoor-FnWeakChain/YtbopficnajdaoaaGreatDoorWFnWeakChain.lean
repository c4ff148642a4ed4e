/-
  The walk of laws.FnWeakChain.
-/
import Derived.Test.YtbopficnajdaoaaGreatDoorLdM
namespace Go.Proofs.YtbopficnajdaoaaGreatDoor
open Go.RowKit
set_option maxRecDepth 100000
set_option linter.unusedVariables false

theorem ok_mk2 {l : List T8} {q : C5} (h : OkC l q) {k a b n : Int} (hk : 1 ≤ k ∧ k ≤ 9) (ha : 0 ≤ a ∧ a ≤ 3) (hb : 0 ≤ b ∧ b ≤ 3) (hn : 0 ≤ n ∧ n ≤ 99) : OkC l ⟨k, q.r, a, b, n⟩ := by
  refine h.as rfl ?_
  have := C5.bd h.2
  simp only [C5.ok, Bool.and_eq_true]
  simp [inR]
  omega
set_option maxHeartbeats 16000000 in
theorem walk_FnWeakChain (a0 : Option Addr) (len0 cap0 : Nat) (z0 : List Int) (a1 : Option Addr) (len1 cap1 : Nat) (z1 : List Int) (w : World) (hKF : KF w) (hET : ET w) (w0 : IsRow .u8 w a0 len0 cap0 z0) (w1 : IsRow .u8 w a1 len1 cap1 z1) :
    Calls Tryz.prog 18 #[.slice a0 len0 cap0, .slice a1 len1 cap1] w fun e w' => e = .returned (.bool true) ∧ Below w.heap.size w w' := by
  by_cases g0 : (1048576 : Int) < (len0 : Int)
  · go_enter Tryz.func18, Tryz.ntmps18
    go_wp2
    go_ret
    exact ⟨rfl, Below.refl _ _⟩
  by_cases g1 : (1048576 : Int) < (len1 : Int)
  · go_enter Tryz.func18, Tryz.ntmps18
    go_wp2
    go_ret
    exact ⟨rfl, Below.refl _ _⟩
  have W0 := Lib.hid w0
  have HF := Lib.hid hKF
  have HE := Lib.hid hET
  clear w0 w1 hKF hET
  go_enter Tryz.func18, Tryz.ntmps18
  go_wp2_with fail
  refine (drawCD_any a0 len0 cap0 z0 _ W0.out).mono ?_
  rintro e y0 ⟨g, c, l, q, rfl, hT, l3, l8, hzs, hb⟩
  have K0 := Lib.hid ((Kn.start hb).new 25 (C5.cs q))
  have T0 := Lib.hid (hT.stay ((Below.refl _ _).alloc (Nat.le_refl _) (.cells (C5.cs q) 25)))
  have HZS := Lib.hid hzs
  have hz : l.length ≤ 1048576 := by omega
  clear W0 hb hT hzs
  obtain ⟨x, ans, hv⟩ : ∃ x ans, callV l q = (x, ans) := ⟨_, _, rfl⟩
  have HV := Lib.hid hv
  have HSX := Lib.hid (call_sm hv)
  clear hv
  go_wp2_with fail
  refine (specDo_val (s := ⟨some ⟨g, 0, none⟩, l.length, c⟩) HV.out _ T0.out hz HZS.out).mono ?_
  rintro e y1 ⟨s1, ts1, rfl, t1, hm1, hb⟩
  have K1 := Lib.hid (K0.out.stay hb)
  have T1 := Lib.hid (T0.out.stay hb)
  have X1 := Lib.hid (show HasT y1 s1 x from hm1 ▸ t1.hasT)
  clear hb t1 hm1 K0 T0
  have c0 := K1.out.c (b := y0.heap.size) (T := 25) (vs := C5.cs q) (by simp) 0 _ rfl
  have c1 := K1.out.c (b := y0.heap.size) (T := 25) (vs := C5.cs q) (by simp) 1 _ rfl
  have c2 := K1.out.c (b := y0.heap.size) (T := 25) (vs := C5.cs q) (by simp) 2 _ rfl
  have c3 := K1.out.c (b := y0.heap.size) (T := 25) (vs := C5.cs q) (by simp) 3 _ rfl
  have c4 := K1.out.c (b := y0.heap.size) (T := 25) (vs := C5.cs q) (by simp) 4 _ rfl
  go_wp2_with fail
  refine (implDo_val (s := ⟨some ⟨g, 0, none⟩, l.length, c⟩) HV.out _ T1.out (HF.out.stay K1.out.1) (HE.out.stay K1.out.1) hz).mono ?_
  rintro e y2 ⟨s2, ts2, rfl, t2, hm2, hb⟩
  have K2 := Lib.hid (K1.out.stay hb)
  have T2 := Lib.hid (T1.out.stay hb)
  have X2 := Lib.hid (X1.out.stay hb)
  have P2 := Lib.hid (show HasT y2 s2 x from hm2 ▸ t2.hasT)
  have HA2 := Lib.hid (show 0 < x.length → ∃ gx, s2.a = some ⟨gx, 0, none⟩ from fun h => by
    obtain ⟨gx, cur, e, -⟩ := t2.1.form (by have := congrArg List.length hm2; simp at this; omega)
    exact ⟨gx, e⟩)
  clear hb t2 hm2 K1 T1 X1 c0 c1 c2 c3 c4
  go_wp2_with fail
  refine (ldTable_same x s2 s1 _ P2.out X2.out HSX.out.1 HSX.out.2).mono ?_
  rintro e y3 ⟨rfl, hb⟩
  have K3 := Lib.hid (K2.out.stay hb)
  have T3 := Lib.hid (T2.out.stay hb)
  have X3 := Lib.hid (X2.out.stay hb)
  have P3 := Lib.hid (P2.out.stay hb)
  clear hb K2 T2 X2 P2
  have c0 := K3.out.c (b := y0.heap.size) (T := 25) (vs := C5.cs q) (by simp) 0 _ rfl
  have c1 := K3.out.c (b := y0.heap.size) (T := 25) (vs := C5.cs q) (by simp) 1 _ rfl
  have c2 := K3.out.c (b := y0.heap.size) (T := 25) (vs := C5.cs q) (by simp) 2 _ rfl
  have c3 := K3.out.c (b := y0.heap.size) (T := 25) (vs := C5.cs q) (by simp) 3 _ rfl
  have c4 := K3.out.c (b := y0.heap.size) (T := 25) (vs := C5.cs q) (by simp) 4 _ rfl
  go_wp2_with fail
  refine (ldCan_any l g l.length c q _ T3.out rfl (HF.out.stay K3.out.1) hz).mono ?_
  rintro e y4 ⟨v, rfl, hv, hb⟩
  have HVV := Lib.hid hv
  have K4 := Lib.hid (K3.out.stay hb)
  have T4 := Lib.hid (T3.out.stay hb)
  have X4 := Lib.hid (X3.out.stay hb)
  have P4 := Lib.hid (P3.out.stay hb)
  clear hb hv K3 T3 X3 P3 c0 c1 c2 c3 c4
  cases v
  · go_wp2_with fail
    refine (ldTable_same x s2 s1 _ P4.out X4.out HSX.out.1 HSX.out.2).mono ?_
    rintro e y5 ⟨rfl, hb⟩
    have HB := Lib.hid (K4.out.stay hb).1
    clear hb
    go_wp2
    go_ret
    exact ⟨rfl, HB.out⟩
  have HO := Lib.hid (HVV.out.1 rfl)
  have HXA := Lib.hid (show x = (doV l q).1 ∧ ans = (doV l q).2 by
    have := HV.out
    rw [callV_ok HO.out] at this
    rw [this]; exact ⟨rfl, rfl⟩)
  have hxl : x.length = l.length := by rw [HXA.out.1, do_len]
  obtain ⟨gx, hs2⟩ := HA2.out (by omega)
  have hsn : s2.n = l.length := by rw [P4.out.1, hxl]
  have HXL := Lib.hid hxl
  obtain ⟨s2a, s2n, cx⟩ := s2
  dsimp only at hs2 hsn
  subst hs2 hsn
  obtain ⟨jr, hjr, hcr, hth, hkr⟩ := HO.out.run
  have hbd := C5.bd HO.out.2
  obtain ⟨ck, cr, ca, cbb, cn⟩ := q
  dsimp only at *
  subst hcr
  obtain ⟨ja, rfl⟩ : ∃ ja : Nat, ca = ja := ⟨ca.toNat, by omega⟩
  obtain ⟨jb, rfl⟩ : ∃ jb : Nat, cbb = jb := ⟨cbb.toNat, by omega⟩
  have hja : ja < 4 := by omega
  have hjb : jb < 4 := by omega
  have hjr' : (jr : Int) < (l.length : Int) := by omega
  have hja' : (ja : Int) < 4 := by omega
  have hjb' : (jb : Int) < 4 := by omega
  have wr : wrap64 ((jr : Int) + 1 - 1) = (jr : Int) := by unfold wrap64; omega
  have wr2 : IntKind.i64.wrap (jr : Int) = (jr : Int) := IntWalk.i64_in _ (by omega)
  have HBD := Lib.hid hbd
  have HTH := Lib.hid hth
  have HKR := Lib.hid hkr
  clear hbd hth hkr hxl HA2 HV HVV X4 HZS
  have c0 := K4.out.c (b := y0.heap.size) (T := 25) (vs := C5.cs ⟨ck, (jr : Int) + 1, (ja : Int), (jb : Int), cn⟩) (by simp) 0 _ rfl
  have c1 := K4.out.c (b := y0.heap.size) (T := 25) (vs := C5.cs ⟨ck, (jr : Int) + 1, (ja : Int), (jb : Int), cn⟩) (by simp) 1 _ rfl
  have c2 := K4.out.c (b := y0.heap.size) (T := 25) (vs := C5.cs ⟨ck, (jr : Int) + 1, (ja : Int), (jb : Int), cn⟩) (by simp) 2 _ rfl
  have c3 := K4.out.c (b := y0.heap.size) (T := 25) (vs := C5.cs ⟨ck, (jr : Int) + 1, (ja : Int), (jb : Int), cn⟩) (by simp) 3 _ rfl
  have c4 := K4.out.c (b := y0.heap.size) (T := 25) (vs := C5.cs ⟨ck, (jr : Int) + 1, (ja : Int), (jb : Int), cn⟩) (by simp) 4 _ rfl
  by_cases hk1 : ¬ ck = 4
  · have hk1' : (ck == 4) = false := by simpa using hk1
    have hk1'' : (ck != 4) = true := by simpa using hk1
    clear hk1 c1 c2 c3 c4
    go_upto_region 8 with fail
    go_quiet (fail)
    go_wp2
    go_ret
    exact ⟨rfl, (K4.out.drewN _).1⟩
  obtain rfl : ck = 4 := Classical.not_not.1 hk1
  clear hk1
  by_cases hneg : ans < 0
  · clear c1 c2 c3 c4
    go_upto_region 8 with fail
    go_quiet (fail)
    go_wp2
    go_ret
    exact ⟨rfl, (K4.out.drewN _).1⟩
  have hans0 : 0 ≤ ans := by omega
  obtain ⟨jr1, ja1, hjr1, rb, ro, sc, qs, er1, ea1, -, eth1, hA, hB, -⟩ := slot_at T4.out HO.out.1 HO.out.2
  obtain rfl : jr = jr1 := by dsimp only at er1; omega
  obtain rfl : ja = ja1 := by dsimp only at ea1; omega
  obtain ⟨rk, hrk⟩ : ∃ rk, (rOf l ⟨4, (jr : Int) + 1, (ja : Int), (jb : Int), cn⟩).k = rk := ⟨_, rfl⟩
  have f5 : y4.cell? ⟨g, jr * 8 + 5, none⟩ = some (.slice (some ⟨rb, ro, none⟩) 4 sc) := hA 5 _ rfl
  have g4 : y4.cell? ⟨rb, ro + ja * 5 + 4, none⟩ = some (.bool rk) := by rw [← hrk]; exact hB 4 _ rfl
  have HRK := Lib.hid hrk
  have hbl1 := cell_lt f5
  have hbl2 := cell_lt g4
  clear hA hB er1 ea1 eth1 hrk c3 c4
  cases rk
  · go_upto_region 8 with fail
    go_quiet (fail)
    go_wp2
    go_ret
    exact ⟨rfl, (K4.out.drewN _).1⟩
  have HOW := Lib.hid (show OkC l ⟨4, (jr : Int) + 1, (jb : Int), 0, ((len1 : Int) % 4)⟩ from ok_mk2 (q := ⟨4, (jr : Int) + 1, (ja : Int), (jb : Int), cn⟩) HO.out (by decide) (by omega) (by decide) (by omega))
  have HWC := Lib.hid (weak_chain HO.out HOW.out rfl rfl rfl rfl rfl (by rw [← HXA.out.2]; exact hans0) HRK.out hjr rfl)
  have HON := Lib.hid (show OkC x ⟨4, (jr : Int) + 1, (jb : Int), 0, ((len1 : Int) % 4)⟩ by rw [HXA.out.1]; exact HO.out.on HOW.out)
  obtain ⟨Xa, Aa, hv⟩ : ∃ X A, callV x ⟨4, (jr : Int) + 1, (jb : Int), 0, ((len1 : Int) % 4)⟩ = (X, A) := ⟨_, _, rfl⟩
  have HVa := Lib.hid hv
  have HDa := Lib.hid (show Xa = (doV x ⟨4, (jr : Int) + 1, (jb : Int), 0, ((len1 : Int) % 4)⟩).1 ∧ Aa = (doV x ⟨4, (jr : Int) + 1, (jb : Int), 0, ((len1 : Int) % 4)⟩).2 by
    rw [callV_ok HON.out] at hv
    rw [hv]; exact ⟨rfl, rfl⟩)
  have HMa := Lib.hid (call_sm hv)
  clear hv
  have hla : Xa.length = l.length := by rw [HDa.out.1, do_len]; exact HXL.out
  have HLA := Lib.hid hla
  have HX4 := Lib.hid (show (x[jr]'(by rw [HXL.out]; exact hjr)).slots.length = 4 by
    have h := run4 (HO.out.on HO.out) (jr := jr) (by rw [do_len]; exact hjr) rfl
    rw [get_of HXA.out.1 (i := jr) (by rw [HXL.out]; exact hjr)]; exact h)
  have HA4 := Lib.hid (show (Xa[jr]'(by rw [HLA.out]; exact hjr)).slots.length = 4 by
    have h := run4 (HON.out.on HON.out) (jr := jr) (by rw [do_len, HXL.out]; exact hjr) rfl
    rw [get_of HDa.out.1 (i := jr) (by rw [HLA.out]; exact hjr)]; exact h)
  obtain ⟨m, hm⟩ : ∃ m, (x[jr]'(by rw [HXL.out]; exact hjr)).slots[jb]'(by rw [HX4.out]; exact hjb) = m := ⟨_, rfl⟩
  obtain ⟨u, hu⟩ : ∃ u, (Xa[jr]'(by rw [HLA.out]; exact hjr)).slots[0]'(by rw [HA4.out]; decide) = u := ⟨_, rfl⟩
  have HFIN := Lib.hid (show (m.t = 0 ∨ m.k = true) ∧ (Aa < 0 ∨ u.t = 0 ∨ u.k = true ∧ u.w = false) by
    have h := HWC.out
    dsimp only at h
    have e1 := HXA.out.1
    subst e1
    rw [HDa.out.2]
    have e2 := get_of HDa.out.1 (i := jr) (by rw [HLA.out]; exact hjr)
    rw [← e2, slotAt_of (j := jb) (by rw [HX4.out]; exact hjb) rfl, hm, slotAt_of (a := 0) (j := 0) (by rw [HA4.out]; decide) rfl, hu] at h
    exact h)
  have HM := Lib.hid hm
  have HU := Lib.hid hu
  clear hm hu hla
  obtain ⟨mt, mv, mr, mw, mk⟩ := m
  obtain ⟨ut, uv, ur, uw, uk⟩ := u
  dsimp only at HFIN
  go_upto_region 8 with fail
  go_quiet (fail)
  obtain ⟨y5, hYq⟩ : ∃ Y', y4.drewN nq = Y' := ⟨_, rfl⟩
  have BQ := Lib.hid (show Below y4.heap.size y4 y5 from hYq ▸ drewNB (Below.refl _ _) nq)
  rw [hYq]
  have K5 := Lib.hid (K4.out.stay BQ.out)
  have T5 := Lib.hid (T4.out.stay BQ.out)
  have P5 := Lib.hid (P4.out.stay BQ.out)
  clear hYq K4 T4 P4 f5 g4 c0 c1 c2
  have c1 := K5.out.c (b := y0.heap.size) (T := 25) (vs := C5.cs ⟨4, (jr : Int) + 1, (ja : Int), (jb : Int), cn⟩) (by simp) 1 _ rfl
  have c3 := K5.out.c (b := y0.heap.size) (T := 25) (vs := C5.cs ⟨4, (jr : Int) + 1, (ja : Int), (jb : Int), cn⟩) (by simp) 3 _ rfl
  have hbl3 := cell_lt c1
  obtain ⟨rbm, rom, scm, fsm, hBm⟩ := slot_get P5.out (by rw [HXL.out]; exact hjr) HX4.out hjb
  rw [HM.out] at hBm
  have bm0 : y5.cell? ⟨rbm, rom + jb * 5, none⟩ = some (.int .i64 mt) := hBm 0 _ rfl
  have bm1 : y5.cell? ⟨rbm, rom + jb * 5 + 1, none⟩ = some (.int .i64 mv) := hBm 1 _ rfl
  have bm2 : y5.cell? ⟨rbm, rom + jb * 5 + 2, none⟩ = some (.bool mr) := hBm 2 _ rfl
  have bm3 : y5.cell? ⟨rbm, rom + jb * 5 + 3, none⟩ = some (.bool mw) := hBm 3 _ rfl
  have bm4 : y5.cell? ⟨rbm, rom + jb * 5 + 4, none⟩ = some (.bool mk) := hBm 4 _ rfl
  have lm1 := cell_lt fsm
  have lm2 := cell_lt bm0
  clear hBm
  go_upto_region 11 with fail
  go_region
  obtain ⟨y6, hYm⟩ : ∃ Y', (y5.alloc (.cells (R5.cs ⟨mt, mv, mr, mw, mk⟩) 34)).drew = Y' := ⟨_, rfl⟩
  try rw [hYm]
  have Nm := Lib.hid (show Box y6 y5.heap.size 34 (R5.cs ⟨mt, mv, mr, mw, mk⟩) from hYm ▸ (Box.fresh y5 34 (R5.cs ⟨mt, mv, mr, mw, mk⟩)).drew)
  have Bm := Lib.hid (show Below y5.heap.size y5 y6 from hYm ▸ ((Below.refl _ _).alloc (Nat.le_refl _) _).drew)
  clear hYm fsm bm0 bm1 bm2 bm3 bm4
  have K6 := Lib.hid (K5.out.stay Bm.out)
  have P6 := Lib.hid (P5.out.stay Bm.out)
  clear c1 c3 K5 T5 P5
  have c1 := K6.out.c (b := y0.heap.size) (T := 25) (vs := C5.cs ⟨4, (jr : Int) + 1, (ja : Int), (jb : Int), cn⟩) (by simp) 1 _ rfl
  have c3 := K6.out.c (b := y0.heap.size) (T := 25) (vs := C5.cs ⟨4, (jr : Int) + 1, (ja : Int), (jb : Int), cn⟩) (by simp) 3 _ rfl
  go_wp2_with fail
  refine (implDo_val (s := ⟨some ⟨gx, 0, none⟩, l.length, cx⟩) (c := ⟨4, (jr : Int) + 1, (jb : Int), 0, ((len1 : Int) % 4)⟩) HVa.out _ P6.out (HF.out.stay K6.out.1) (HE.out.stay K6.out.1) HSX.out.1).mono ?_
  rintro e y7 ⟨sa, tsa, rfl, ta, hma, hb⟩
  have K7 := Lib.hid (K6.out.stay hb)
  have Pa := Lib.hid (hma ▸ ta.hasT)
  have HAa := Lib.hid (show 0 < tsa.length → ∃ gg, sa.a = some ⟨gg, 0, none⟩ from fun h => by
    obtain ⟨gg, cur, e, -⟩ := ta.1.form h
    exact ⟨gg, e⟩)
  have HMMa := Lib.hid hma
  have Nm7 := Lib.hid (Nm.out.stay hb)
  clear hb ta hma K6 P6 Nm c1 c3
  obtain ⟨gy, hsa⟩ := HAa.out (by have h1 := congrArg List.length HMMa.out; rw [List.length_map] at h1; have h2 := HLA.out; omega)
  have hsna : sa.n = l.length := by rw [Pa.out.1, HLA.out]
  obtain ⟨saa, san, cy⟩ := sa
  dsimp only at hsa hsna
  subst hsa hsna
  have c1 := K7.out.c (b := y0.heap.size) (T := 25) (vs := C5.cs ⟨4, (jr : Int) + 1, (ja : Int), (jb : Int), cn⟩) (by simp) 1 _ rfl
  have hbl4 := cell_lt c1
  obtain ⟨rbn, ron, scn, fsn, hBn⟩ := slot_get Pa.out (by rw [HLA.out]; exact hjr) HA4.out (show (0 : Nat) < 4 by decide)
  rw [HU.out] at hBn
  have bn0 : y7.cell? ⟨rbn, ron, none⟩ = some (.int .i64 ut) := hBn 0 _ rfl
  have bn1 : y7.cell? ⟨rbn, ron + 1, none⟩ = some (.int .i64 uv) := hBn 1 _ rfl
  have bn2 : y7.cell? ⟨rbn, ron + 2, none⟩ = some (.bool ur) := hBn 2 _ rfl
  have bn3 : y7.cell? ⟨rbn, ron + 3, none⟩ = some (.bool uw) := hBn 3 _ rfl
  have bn4 : y7.cell? ⟨rbn, ron + 4, none⟩ = some (.bool uk) := hBn 4 _ rfl
  have ln1 := cell_lt fsn
  have ln2 := cell_lt bn0
  clear hBn
  obtain ⟨y8, hYn⟩ : ∃ Y', (y7.alloc (.cells (R5.cs ⟨ut, uv, ur, uw, uk⟩) 34)) = Y' := ⟨_, rfl⟩
  go_upto_region 13 with fail
  try rw [hYn]
  have Nn := Lib.hid (show Box y8 y7.heap.size 34 (R5.cs ⟨ut, uv, ur, uw, uk⟩) from hYn ▸ (Box.fresh y7 34 (R5.cs ⟨ut, uv, ur, uw, uk⟩)))
  have Bn := Lib.hid (show Below y7.heap.size y7 y8 from hYn ▸ ((Below.refl _ _).alloc (Nat.le_refl _) _))
  clear hYn fsn bn0 bn1 bn2 bn3 bn4
  have K8 := Lib.hid (K7.out.stay Bn.out)
  have Nm8 := Lib.hid (Nm7.out.stay Bn.out)
  clear c1 K7 Nm7
  have m0 := Nm8.out.cell 0 _ rfl
  have m4 := Nm8.out.cell 4 _ rfl
  have n0 := Nn.out.cell 0 _ rfl
  have n3 := Nn.out.cell 3 _ rfl
  have n4 := Nn.out.cell 4 _ rfl
  obtain ⟨f1, f2⟩ := HFIN.out
  have H1 : mt = 0 ∨ (mt == 0) = false ∧ mk = true := by
    by_cases h : mt = 0
    · exact .inl h
    · exact .inr ⟨by simpa using h, f1.resolve_left h⟩
  have H2 : Aa < 0 ∨ ¬ Aa < 0 ∧ ut = 0 ∨ ¬ Aa < 0 ∧ (ut == 0) = false ∧ uk = true ∧ uw = false := by
    by_cases h : Aa < 0
    · exact .inl h
    · by_cases h2 : ut = 0
      · exact .inr (.inl ⟨h, h2⟩)
      · rcases f2 with f | f | f
        · exact absurd f h
        · exact absurd f h2
        · exact .inr (.inr ⟨h, by simpa using h2, f.1, f.2⟩)
  clear HFIN f1 f2 HWC HXA HDa
  rcases H1 with rfl | ⟨h1, rfl⟩ <;> rcases H2 with h2 | ⟨h2, rfl⟩ | ⟨h2, h3, rfl, rfl⟩
  all_goals
    go_wp2
    go_ret
    exact ⟨by simp [*], K8.out.1⟩
end Go.Proofs.YtbopficnajdaoaaGreatDoor
