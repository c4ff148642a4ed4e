/-
  The walk of laws.FnGateTwice.
-/
import Derived.Test.YtbopficnajdaoaaGreatDoorLdM
namespace Go.Proofs.YtbopficnajdaoaaGreatDoor
open Go.RowKit
set_option maxRecDepth 100000
set_option linter.unusedVariables false

theorem ok_mk {l : List T8} {q : C5} (h : OkC l q) {k b n : Int} (hk : 1 ≤ k ∧ k ≤ 9) (hb : 0 ≤ b ∧ b ≤ 3) (hn : 0 ≤ n ∧ n ≤ 99) : OkC l ⟨k, q.r, q.a, b, n⟩ := by
  refine h.as rfl ?_
  have := C5.bd h.2
  simp only [C5.ok, Bool.and_eq_true]
  simp [inR]
  omega
set_option maxHeartbeats 16000000 in
theorem walk_FnGateTwice (a0 : Option Addr) (len0 cap0 : Nat) (z0 : List Int) (a1 : Option Addr) (len1 cap1 : Nat) (z1 : List Int) (w : World) (hKF : KF w) (hET : ET w) (w0 : IsRow .u8 w a0 len0 cap0 z0) (w1 : IsRow .u8 w a1 len1 cap1 z1) :
    Calls Tryz.prog 14 #[.slice a0 len0 cap0, .slice a1 len1 cap1] w fun e w' => e = .returned (.bool true) ∧ Below w.heap.size w w' := by
  by_cases g0 : (1048576 : Int) < (len0 : Int)
  · go_enter Tryz.func14, Tryz.ntmps14
    go_wp2
    go_ret
    exact ⟨rfl, Below.refl _ _⟩
  by_cases g1 : (1048576 : Int) < (len1 : Int)
  · go_enter Tryz.func14, Tryz.ntmps14
    go_wp2
    go_ret
    exact ⟨rfl, Below.refl _ _⟩
  have W0 := Lib.hid w0
  have HF := Lib.hid hKF
  have HE := Lib.hid hET
  clear w0 w1 hKF hET
  go_enter Tryz.func14, Tryz.ntmps14
  go_wp2_with fail
  refine (drawCD_any a0 len0 cap0 z0 _ W0.out).mono ?_
  rintro e y0 ⟨g, c, l, q, rfl, hT, l3, l8, hzs, hb⟩
  have K0 := Lib.hid ((Kn.start hb).new 25 (C5.cs q))
  have T0 := Lib.hid (hT.stay ((Below.refl _ _).alloc (Nat.le_refl _) (.cells (C5.cs q) 25)))
  have HZS := Lib.hid hzs
  have hz : l.length ≤ 1048576 := by omega
  clear W0 hb hT hzs
  obtain ⟨x, ans, hv⟩ : ∃ x ans, callV l q = (x, ans) := ⟨_, _, rfl⟩
  have HV := Lib.hid hv
  have HSX := Lib.hid (call_sm hv)
  clear hv
  go_wp2_with fail
  refine (specDo_val (s := ⟨some ⟨g, 0, none⟩, l.length, c⟩) HV.out _ T0.out hz HZS.out).mono ?_
  rintro e y1 ⟨s1, ts1, rfl, t1, hm1, hb⟩
  have K1 := Lib.hid (K0.out.stay hb)
  have T1 := Lib.hid (T0.out.stay hb)
  have X1 := Lib.hid (show HasT y1 s1 x from hm1 ▸ t1.hasT)
  clear hb t1 hm1 K0 T0
  have c0 := K1.out.c (b := y0.heap.size) (T := 25) (vs := C5.cs q) (by simp) 0 _ rfl
  have c1 := K1.out.c (b := y0.heap.size) (T := 25) (vs := C5.cs q) (by simp) 1 _ rfl
  have c2 := K1.out.c (b := y0.heap.size) (T := 25) (vs := C5.cs q) (by simp) 2 _ rfl
  have c3 := K1.out.c (b := y0.heap.size) (T := 25) (vs := C5.cs q) (by simp) 3 _ rfl
  have c4 := K1.out.c (b := y0.heap.size) (T := 25) (vs := C5.cs q) (by simp) 4 _ rfl
  go_wp2_with fail
  refine (implDo_val (s := ⟨some ⟨g, 0, none⟩, l.length, c⟩) HV.out _ T1.out (HF.out.stay K1.out.1) (HE.out.stay K1.out.1) hz).mono ?_
  rintro e y2 ⟨s2, ts2, rfl, t2, hm2, hb⟩
  have K2 := Lib.hid (K1.out.stay hb)
  have T2 := Lib.hid (T1.out.stay hb)
  have X2 := Lib.hid (X1.out.stay hb)
  have P2 := Lib.hid (show HasT y2 s2 x from hm2 ▸ t2.hasT)
  have HA2 := Lib.hid (show 0 < x.length → ∃ gx, s2.a = some ⟨gx, 0, none⟩ from fun h => by
    obtain ⟨gx, cur, e, -⟩ := t2.1.form (by have := congrArg List.length hm2; simp at this; omega)
    exact ⟨gx, e⟩)
  clear hb t2 hm2 K1 T1 X1 c0 c1 c2 c3 c4
  go_wp2_with fail
  refine (ldTable_same x s2 s1 _ P2.out X2.out HSX.out.1 HSX.out.2).mono ?_
  rintro e y3 ⟨rfl, hb⟩
  have K3 := Lib.hid (K2.out.stay hb)
  have T3 := Lib.hid (T2.out.stay hb)
  have X3 := Lib.hid (X2.out.stay hb)
  have P3 := Lib.hid (P2.out.stay hb)
  clear hb K2 T2 X2 P2
  have c0 := K3.out.c (b := y0.heap.size) (T := 25) (vs := C5.cs q) (by simp) 0 _ rfl
  have c1 := K3.out.c (b := y0.heap.size) (T := 25) (vs := C5.cs q) (by simp) 1 _ rfl
  have c2 := K3.out.c (b := y0.heap.size) (T := 25) (vs := C5.cs q) (by simp) 2 _ rfl
  have c3 := K3.out.c (b := y0.heap.size) (T := 25) (vs := C5.cs q) (by simp) 3 _ rfl
  have c4 := K3.out.c (b := y0.heap.size) (T := 25) (vs := C5.cs q) (by simp) 4 _ rfl
  go_wp2_with fail
  refine (ldCan_any l g l.length c q _ T3.out rfl (HF.out.stay K3.out.1) hz).mono ?_
  rintro e y4 ⟨v, rfl, hv, hb⟩
  have HVV := Lib.hid hv
  have K4 := Lib.hid (K3.out.stay hb)
  have T4 := Lib.hid (T3.out.stay hb)
  have X4 := Lib.hid (X3.out.stay hb)
  have P4 := Lib.hid (P3.out.stay hb)
  clear hb hv K3 T3 X3 P3 c0 c1 c2 c3 c4
  cases v
  · go_wp2_with fail
    refine (ldTable_same x s2 s1 _ P4.out X4.out HSX.out.1 HSX.out.2).mono ?_
    rintro e y5 ⟨rfl, hb⟩
    have HB := Lib.hid (K4.out.stay hb).1
    clear hb
    go_wp2
    go_ret
    exact ⟨rfl, HB.out⟩
  have HO := Lib.hid (HVV.out.1 rfl)
  have HXA := Lib.hid (show x = (doV l q).1 ∧ ans = (doV l q).2 by
    have := HV.out
    rw [callV_ok HO.out] at this
    rw [this]; exact ⟨rfl, rfl⟩)
  have hxl : x.length = l.length := by rw [HXA.out.1, do_len]
  obtain ⟨gx, hs2⟩ := HA2.out (by omega)
  have hsn : s2.n = l.length := by rw [P4.out.1, hxl]
  have HXL := Lib.hid hxl
  obtain ⟨s2a, s2n, cx⟩ := s2
  dsimp only at hs2 hsn
  subst hs2 hsn
  obtain ⟨jr, hjr, hcr, hth, hkr⟩ := HO.out.run
  have hbd := C5.bd HO.out.2
  obtain ⟨ck, cr, ca, cbb, cn⟩ := q
  dsimp only at *
  subst hcr
  obtain ⟨ja, rfl⟩ : ∃ ja : Nat, ca = ja := ⟨ca.toNat, by omega⟩
  obtain ⟨jb, rfl⟩ : ∃ jb : Nat, cbb = jb := ⟨cbb.toNat, by omega⟩
  have hja : ja < 4 := by omega
  have hjb : jb < 4 := by omega
  have hjr' : (jr : Int) < (l.length : Int) := by omega
  have hja' : (ja : Int) < 4 := by omega
  have hjb' : (jb : Int) < 4 := by omega
  have wr : wrap64 ((jr : Int) + 1 - 1) = (jr : Int) := by unfold wrap64; omega
  have wr2 : IntKind.i64.wrap (jr : Int) = (jr : Int) := IntWalk.i64_in _ (by omega)
  have HBD := Lib.hid hbd
  have HTH := Lib.hid hth
  have HKR := Lib.hid hkr
  clear hbd hth hkr hxl HA2 HV HVV X4 HZS
  have c0 := K4.out.c (b := y0.heap.size) (T := 25) (vs := C5.cs ⟨ck, (jr : Int) + 1, (ja : Int), (jb : Int), cn⟩) (by simp) 0 _ rfl
  have c1 := K4.out.c (b := y0.heap.size) (T := 25) (vs := C5.cs ⟨ck, (jr : Int) + 1, (ja : Int), (jb : Int), cn⟩) (by simp) 1 _ rfl
  have c2 := K4.out.c (b := y0.heap.size) (T := 25) (vs := C5.cs ⟨ck, (jr : Int) + 1, (ja : Int), (jb : Int), cn⟩) (by simp) 2 _ rfl
  have c3 := K4.out.c (b := y0.heap.size) (T := 25) (vs := C5.cs ⟨ck, (jr : Int) + 1, (ja : Int), (jb : Int), cn⟩) (by simp) 3 _ rfl
  have c4 := K4.out.c (b := y0.heap.size) (T := 25) (vs := C5.cs ⟨ck, (jr : Int) + 1, (ja : Int), (jb : Int), cn⟩) (by simp) 4 _ rfl
  by_cases hk1 : ¬ ck = 9
  · have hk1' : (ck == 9) = false := by simpa using hk1
    have hk1'' : (ck != 9) = true := by simpa using hk1
    clear hk1
    go_wp2
    go_ret
    exact ⟨rfl, K4.out.1⟩
  obtain rfl : ck = 9 := Classical.not_not.1 hk1
  clear hk1
  obtain ⟨v, hv⟩ : ∃ v, chkV l ⟨9, (jr : Int) + 1, (ja : Int), (jb : Int), cn⟩ = v := ⟨_, rfl⟩
  have HV := Lib.hid hv
  clear hv
  go_wp2_with fail
  refine (implCheck_val (s := ⟨some ⟨g, 0, none⟩, l.length, c⟩) (c := ⟨9, (jr : Int) + 1, (ja : Int), (jb : Int), cn⟩) HV.out _ T4.out (HF.out.stay K4.out.1) (HE.out.stay K4.out.1) hz).mono ?_
  rintro e y5 ⟨rfl, hb⟩
  have K5 := Lib.hid (K4.out.stay hb)
  have T5 := Lib.hid (T4.out.stay hb)
  have P5 := Lib.hid (P4.out.stay hb)
  clear hb K4 T4 P4 c0 c1 c2 c3 c4
  by_cases hv0 : v < 0
  · clear HXA
    go_wp2
    go_ret
    exact ⟨rfl, K5.out.1⟩
  have h0 : chkV l ⟨9, (jr : Int) + 1, (ja : Int), (jb : Int), cn⟩ = 0 := by rcases chk_vals HO.out with e | e | e | e <;> rw [HV.out] at e <;> rw [HV.out] <;> omega
  obtain ⟨jo, hjo, hro, hnj⟩ := obj_get HO.out h0 (show (9 : Int) ≠ 3 by decide) hjr rfl
  have hjo' : (jo : Int) < (l.length : Int) := by omega
  have wo : wrap64 ((jo : Int) + 1 - 1) = (jo : Int) := by unfold wrap64; omega
  have wo2 : IntKind.i64.wrap (jo : Int) = (jo : Int) := IntWalk.i64_in _ (by omega)
  have HOG := Lib.hid (show OkC l ⟨9, (jr : Int) + 1, (ja : Int), 0, ((len1 : Int) % 90)⟩ from ok_mk (q := ⟨9, (jr : Int) + 1, (ja : Int), (jb : Int), cn⟩) HO.out (by decide) (by omega) (by omega))
  obtain ⟨jt, hjt, hto, hg1, hg2, hg3⟩ := gate_twice HO.out HOG.out rfl rfl rfl rfl h0 hjr rfl hjo hro
  have HG1 := Lib.hid hg1
  have HG2 := Lib.hid hg2
  have HG3 := Lib.hid hg3
  have HTO := Lib.hid hto
  have HRO := Lib.hid hro
  have hjt' : (jt : Int) < (l.length : Int) := by omega
  have wt : wrap64 ((jt : Int) + 1 - 1) = (jt : Int) := by unfold wrap64; omega
  have wt2 : IntKind.i64.wrap (jt : Int) = (jt : Int) := IntWalk.i64_in _ (by omega)
  clear h0 hro hnj hg1 hg2 hg3 hto
  have HON := Lib.hid (show OkC x ⟨9, (jr : Int) + 1, (ja : Int), 0, ((len1 : Int) % 90)⟩ by rw [HXA.out.1]; exact HO.out.on HOG.out)
  obtain ⟨Xa, Aa, hv⟩ : ∃ X A, callV x ⟨9, (jr : Int) + 1, (ja : Int), 0, ((len1 : Int) % 90)⟩ = (X, A) := ⟨_, _, rfl⟩
  have HVa := Lib.hid hv
  have HDa := Lib.hid (show Xa = (doV x ⟨9, (jr : Int) + 1, (ja : Int), 0, ((len1 : Int) % 90)⟩).1 ∧ Aa = (doV x ⟨9, (jr : Int) + 1, (ja : Int), 0, ((len1 : Int) % 90)⟩).2 by
    rw [callV_ok HON.out] at hv
    rw [hv]; exact ⟨rfl, rfl⟩)
  have HMa := Lib.hid (call_sm hv)
  clear hv
  obtain rfl : Aa = 0 := HDa.out.2.trans (by rw [HXA.out.1]; exact HG1.out)
  have hla : Xa.length = l.length := by rw [HDa.out.1, do_len]; exact HXL.out
  have HLA := Lib.hid hla
  have HN1 := Lib.hid (show (Xa[jo]'(by rw [HLA.out]; exact hjo)).num = min ((l[jo]'hjo).num + 2) 99 by
    have e1 := HXA.out.1
    subst e1
    rw [get_of HDa.out.1 (i := jo) (by rw [HLA.out]; exact hjo)]; exact HG2.out)
  have HN2 := Lib.hid (show (Xa[jt]'(by rw [HLA.out]; exact hjt)).num = ((len1 : Int) % 90) % 2 by
    have e1 := HXA.out.1
    subst e1
    rw [get_of HDa.out.1 (i := jt) (by rw [HLA.out]; exact hjt)]; exact HG3.out)
  clear hla
  obtain ⟨jr1, ja1, hjr1, rb, ro, sc, qs1, er1, ea1, -, eth1, hA, hB, -⟩ := slot_at T5.out HO.out.1 HO.out.2
  obtain rfl : jr = jr1 := by dsimp only at er1; omega
  obtain rfl : ja = ja1 := by dsimp only at ea1; omega
  have b0 : y5.cell? ⟨rb, ro + ja * 5, none⟩ = some (.int .i64 ((jo : Int) + 1)) := by
    rw [← show (rOf l ⟨9, (jr : Int) + 1, (ja : Int), (jb : Int), cn⟩).t = (jo : Int) + 1 from HRO.out]
    exact hB 0 _ rfl
  have f5 : y5.cell? ⟨g, jr * 8 + 5, none⟩ = some (.slice (some ⟨rb, ro, none⟩) 4 sc) := hA 5 _ rfl
  clear hA hB er1 ea1 eth1
  have c1 := K5.out.c (b := y0.heap.size) (T := 25) (vs := C5.cs ⟨9, (jr : Int) + 1, (ja : Int), (jb : Int), cn⟩) (by simp) 1 _ rfl
  have c2 := K5.out.c (b := y0.heap.size) (T := 25) (vs := C5.cs ⟨9, (jr : Int) + 1, (ja : Int), (jb : Int), cn⟩) (by simp) 2 _ rfl
  go_upto_region 10 with fail
  go_quiet (fail)
  obtain ⟨y6, hYq⟩ : ∃ Y', y5.drewN nq = Y' := ⟨_, rfl⟩
  have BQ := Lib.hid (show Below y5.heap.size y5 y6 from hYq ▸ drewNB (Below.refl _ _) nq)
  rw [hYq]
  have K6 := Lib.hid (K5.out.stay BQ.out)
  have T6 := Lib.hid (T5.out.stay BQ.out)
  have P6 := Lib.hid (P5.out.stay BQ.out)
  clear hYq K5 T5 P5 b0 f5 c1 c2
  have c1 := K6.out.c (b := y0.heap.size) (T := 25) (vs := C5.cs ⟨9, (jr : Int) + 1, (ja : Int), (jb : Int), cn⟩) (by simp) 1 _ rfl
  have c2 := K6.out.c (b := y0.heap.size) (T := 25) (vs := C5.cs ⟨9, (jr : Int) + 1, (ja : Int), (jb : Int), cn⟩) (by simp) 2 _ rfl
  go_wp2_with fail
  refine (implDo_val (s := ⟨some ⟨gx, 0, none⟩, l.length, cx⟩) (c := ⟨9, (jr : Int) + 1, (ja : Int), 0, ((len1 : Int) % 90)⟩) HVa.out _ P6.out (HF.out.stay K6.out.1) (HE.out.stay K6.out.1) HSX.out.1).mono ?_
  rintro e y7 ⟨sa, tsa, rfl, ta, hma, hb⟩
  have K7 := Lib.hid (K6.out.stay hb)
  have Pa := Lib.hid (hma ▸ ta.hasT)
  have HAa := Lib.hid (show 0 < tsa.length → ∃ gg, sa.a = some ⟨gg, 0, none⟩ from fun h => by
    obtain ⟨gg, cur, e, -⟩ := ta.1.form h
    exact ⟨gg, e⟩)
  have HMMa := Lib.hid hma
  have T7 := Lib.hid (T6.out.stay hb)
  clear hb ta hma K6 T6 P6 c1 c2
  obtain ⟨gy, hsa⟩ := HAa.out (by have h1 := congrArg List.length HMMa.out; rw [List.length_map] at h1; have h2 := HLA.out; omega)
  have hsna : sa.n = l.length := by rw [Pa.out.1, HLA.out]
  obtain ⟨saa, san, cy⟩ := sa
  dsimp only at hsa hsna
  subst hsa hsna
  obtain ⟨so, qo, -, -, hAo⟩ := T7.out.cells hjo
  obtain ⟨sx, qx, -, -, hAx⟩ := Pa.out.cells (i := jo) (by rw [HLA.out]; exact hjo)
  obtain ⟨sp, qp, -, -, hAp⟩ := Pa.out.cells (i := jt) (by rw [HLA.out]; exact hjt)
  obtain ⟨nm, hnm⟩ : ∃ nm, (l[jo]'hjo).num = nm := ⟨_, rfl⟩
  have d4 : y7.cell? ⟨g, jo * 8 + 4, none⟩ = some (.int .i64 nm) := by rw [← hnm]; exact hAo 4 _ rfl
  have d7 : y7.cell? ⟨g, jo * 8 + 7, none⟩ = some (.int .i64 ((jt : Int) + 1)) := by rw [← HTO.out]; exact hAo 7 _ rfl
  have e4 : y7.cell? ⟨gy, jo * 8 + 4, none⟩ = some (.int .i64 (min (nm + 2) 99)) := by rw [← hnm, ← HN1.out]; exact hAx 4 _ rfl
  have p4 : y7.cell? ⟨gy, jt * 8 + 4, none⟩ = some (.int .i64 (((len1 : Int) % 90) % 2)) := by rw [← HN2.out]; exact hAp 4 _ rfl
  have hnb : -4 ≤ nm ∧ nm ≤ 99 := by rw [← hnm]; exact okT_num (tab_okT HO.out.tab hjo)
  have wn : wrap64 (nm + 2) = nm + 2 := by unfold wrap64; omega
  have wn2 : IntKind.i64.wrap (nm + 2) = nm + 2 := IntWalk.i64_in _ (by omega)
  clear hAo hAx hAp hnm
  have BF := Lib.hid K7.out.1
  by_cases hm : 99 < nm + 2
  · have hmm : min (nm + 2) 99 = 99 := by omega
    rw [hmm] at e4
    go_upto_region 13 with fail
    go_quiet (fail)
    go_wp2
    go_ret
    exact ⟨by simp [*], (K7.out.drewN _).1⟩
  · have hmm : min (nm + 2) 99 = nm + 2 := by omega
    rw [hmm] at e4
    go_upto_region 13 with fail
    go_quiet (fail)
    go_wp2
    go_ret
    exact ⟨by simp [*], (K7.out.drewN _).1⟩
end Go.Proofs.YtbopficnajdaoaaGreatDoor
