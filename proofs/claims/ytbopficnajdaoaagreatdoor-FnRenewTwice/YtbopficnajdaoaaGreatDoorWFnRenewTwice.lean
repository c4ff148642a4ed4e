/-
  The walk of laws.FnRenewTwice.
-/
import Derived.Test.YtbopficnajdaoaaGreatDoorLdM
namespace Go.Proofs.YtbopficnajdaoaaGreatDoor
open Go.RowKit
set_option maxRecDepth 100000
set_option linter.unusedVariables false

set_option maxHeartbeats 16000000 in
theorem walk_FnRenewTwice (a0 : Option Addr) (len0 cap0 : Nat) (z0 : List Int) (w : World) (hKF : KF w) (hET : ET w) (w0 : IsRow .u8 w a0 len0 cap0 z0) :
    Calls Tryz.prog 11 #[.slice a0 len0 cap0] w fun e w' => e = .returned (.bool true) ∧ Below w.heap.size w w' := by
  by_cases g0 : (1048576 : Int) < (len0 : Int)
  · go_enter Tryz.func11, Tryz.ntmps11
    go_wp2
    go_ret
    exact ⟨rfl, Below.refl _ _⟩
  have W0 := Lib.hid w0
  have HF := Lib.hid hKF
  have HE := Lib.hid hET
  clear w0 hKF hET
  go_enter Tryz.func11, Tryz.ntmps11
  go_wp2_with fail
  refine (drawCD_any a0 len0 cap0 z0 _ W0.out).mono ?_
  rintro e y0 ⟨g, c, l, q, rfl, hT, l3, l8, hzs, hb⟩
  have K0 := Lib.hid ((Kn.start hb).new 25 (C5.cs q))
  have T0 := Lib.hid (hT.stay ((Below.refl _ _).alloc (Nat.le_refl _) (.cells (C5.cs q) 25)))
  have HZS := Lib.hid hzs
  have hz : l.length ≤ 1048576 := by omega
  clear W0 hb hT hzs
  obtain ⟨x, ans, hv⟩ : ∃ x ans, callV l q = (x, ans) := ⟨_, _, rfl⟩
  have HV := Lib.hid hv
  have HSX := Lib.hid (call_sm hv)
  clear hv
  go_wp2_with fail
  refine (specDo_val (s := ⟨some ⟨g, 0, none⟩, l.length, c⟩) HV.out _ T0.out hz HZS.out).mono ?_
  rintro e y1 ⟨s1, ts1, rfl, t1, hm1, hb⟩
  have K1 := Lib.hid (K0.out.stay hb)
  have T1 := Lib.hid (T0.out.stay hb)
  have X1 := Lib.hid (show HasT y1 s1 x from hm1 ▸ t1.hasT)
  clear hb t1 hm1 K0 T0
  have c0 := K1.out.c (b := y0.heap.size) (T := 25) (vs := C5.cs q) (by simp) 0 _ rfl
  have c1 := K1.out.c (b := y0.heap.size) (T := 25) (vs := C5.cs q) (by simp) 1 _ rfl
  have c2 := K1.out.c (b := y0.heap.size) (T := 25) (vs := C5.cs q) (by simp) 2 _ rfl
  have c3 := K1.out.c (b := y0.heap.size) (T := 25) (vs := C5.cs q) (by simp) 3 _ rfl
  have c4 := K1.out.c (b := y0.heap.size) (T := 25) (vs := C5.cs q) (by simp) 4 _ rfl
  go_wp2_with fail
  refine (implDo_val (s := ⟨some ⟨g, 0, none⟩, l.length, c⟩) HV.out _ T1.out (HF.out.stay K1.out.1) (HE.out.stay K1.out.1) hz).mono ?_
  rintro e y2 ⟨s2, ts2, rfl, t2, hm2, hb⟩
  have K2 := Lib.hid (K1.out.stay hb)
  have T2 := Lib.hid (T1.out.stay hb)
  have X2 := Lib.hid (X1.out.stay hb)
  have P2 := Lib.hid (show HasT y2 s2 x from hm2 ▸ t2.hasT)
  have HA2 := Lib.hid (show 0 < x.length → ∃ gx, s2.a = some ⟨gx, 0, none⟩ from fun h => by
    obtain ⟨gx, cur, e, -⟩ := t2.1.form (by have := congrArg List.length hm2; simp at this; omega)
    exact ⟨gx, e⟩)
  clear hb t2 hm2 K1 T1 X1 c0 c1 c2 c3 c4
  go_wp2_with fail
  refine (ldTable_same x s2 s1 _ P2.out X2.out HSX.out.1 HSX.out.2).mono ?_
  rintro e y3 ⟨rfl, hb⟩
  have K3 := Lib.hid (K2.out.stay hb)
  have T3 := Lib.hid (T2.out.stay hb)
  have X3 := Lib.hid (X2.out.stay hb)
  have P3 := Lib.hid (P2.out.stay hb)
  clear hb K2 T2 X2 P2
  have c0 := K3.out.c (b := y0.heap.size) (T := 25) (vs := C5.cs q) (by simp) 0 _ rfl
  have c1 := K3.out.c (b := y0.heap.size) (T := 25) (vs := C5.cs q) (by simp) 1 _ rfl
  have c2 := K3.out.c (b := y0.heap.size) (T := 25) (vs := C5.cs q) (by simp) 2 _ rfl
  have c3 := K3.out.c (b := y0.heap.size) (T := 25) (vs := C5.cs q) (by simp) 3 _ rfl
  have c4 := K3.out.c (b := y0.heap.size) (T := 25) (vs := C5.cs q) (by simp) 4 _ rfl
  go_wp2_with fail
  refine (ldCan_any l g l.length c q _ T3.out rfl (HF.out.stay K3.out.1) hz).mono ?_
  rintro e y4 ⟨v, rfl, hv, hb⟩
  have HVV := Lib.hid hv
  have K4 := Lib.hid (K3.out.stay hb)
  have T4 := Lib.hid (T3.out.stay hb)
  have X4 := Lib.hid (X3.out.stay hb)
  have P4 := Lib.hid (P3.out.stay hb)
  clear hb hv K3 T3 X3 P3 c0 c1 c2 c3 c4
  cases v
  · go_wp2_with fail
    refine (ldTable_same x s2 s1 _ P4.out X4.out HSX.out.1 HSX.out.2).mono ?_
    rintro e y5 ⟨rfl, hb⟩
    have HB := Lib.hid (K4.out.stay hb).1
    clear hb
    go_wp2
    go_ret
    exact ⟨rfl, HB.out⟩
  have HO := Lib.hid (HVV.out.1 rfl)
  have HXA := Lib.hid (show x = (doV l q).1 ∧ ans = (doV l q).2 by
    have := HV.out
    rw [callV_ok HO.out] at this
    rw [this]; exact ⟨rfl, rfl⟩)
  have hxl : x.length = l.length := by rw [HXA.out.1, do_len]
  obtain ⟨gx, hs2⟩ := HA2.out (by omega)
  have hsn : s2.n = l.length := by rw [P4.out.1, hxl]
  have HXL := Lib.hid hxl
  obtain ⟨s2a, s2n, cx⟩ := s2
  dsimp only at hs2 hsn
  subst hs2 hsn
  obtain ⟨jr, hjr, hcr, hth, hkr⟩ := HO.out.run
  have hbd := C5.bd HO.out.2
  obtain ⟨ck, cr, ca, cbb, cn⟩ := q
  dsimp only at *
  subst hcr
  obtain ⟨ja, rfl⟩ : ∃ ja : Nat, ca = ja := ⟨ca.toNat, by omega⟩
  obtain ⟨jb, rfl⟩ : ∃ jb : Nat, cbb = jb := ⟨cbb.toNat, by omega⟩
  have hja : ja < 4 := by omega
  have hjb : jb < 4 := by omega
  have hjr' : (jr : Int) < (l.length : Int) := by omega
  have hja' : (ja : Int) < 4 := by omega
  have hjb' : (jb : Int) < 4 := by omega
  have wr : wrap64 ((jr : Int) + 1 - 1) = (jr : Int) := by unfold wrap64; omega
  have wr2 : IntKind.i64.wrap (jr : Int) = (jr : Int) := IntWalk.i64_in _ (by omega)
  have HBD := Lib.hid hbd
  have HTH := Lib.hid hth
  have HKR := Lib.hid hkr
  clear hbd hth hkr hxl HA2 HV HVV X4 HZS
  have c0 := K4.out.c (b := y0.heap.size) (T := 25) (vs := C5.cs ⟨ck, (jr : Int) + 1, (ja : Int), (jb : Int), cn⟩) (by simp) 0 _ rfl
  have c1 := K4.out.c (b := y0.heap.size) (T := 25) (vs := C5.cs ⟨ck, (jr : Int) + 1, (ja : Int), (jb : Int), cn⟩) (by simp) 1 _ rfl
  have c2 := K4.out.c (b := y0.heap.size) (T := 25) (vs := C5.cs ⟨ck, (jr : Int) + 1, (ja : Int), (jb : Int), cn⟩) (by simp) 2 _ rfl
  have c3 := K4.out.c (b := y0.heap.size) (T := 25) (vs := C5.cs ⟨ck, (jr : Int) + 1, (ja : Int), (jb : Int), cn⟩) (by simp) 3 _ rfl
  have c4 := K4.out.c (b := y0.heap.size) (T := 25) (vs := C5.cs ⟨ck, (jr : Int) + 1, (ja : Int), (jb : Int), cn⟩) (by simp) 4 _ rfl
  obtain ⟨jr1, ja1, hjr1, rb, ro, sc, qs, er1, ea1, -, eth1, hA, hB, -⟩ := slot_at T4.out HO.out.1 HO.out.2
  obtain rfl : jr = jr1 := by dsimp only at er1; omega
  obtain rfl : ja = ja1 := by dsimp only at ea1; omega
  obtain ⟨r, hr⟩ : ∃ r, rOf l ⟨ck, (jr : Int) + 1, (ja : Int), (jb : Int), cn⟩ = r := ⟨_, rfl⟩
  have hBr : At y4 rb (ro + ja * 5) r.cs := by rw [← hr]; exact hB
  obtain ⟨rt, rv, rr, rw_, rk⟩ := r
  have HR := Lib.hid hr
  have f5 : y4.cell? ⟨g, jr * 8 + 5, none⟩ = some (.slice (some ⟨rb, ro, none⟩) 4 sc) := hA 5 _ rfl
  have g0' : y4.cell? ⟨rb, ro + ja * 5, none⟩ = some (.int .i64 rt) := hBr 0 _ rfl
  have g1 : y4.cell? ⟨rb, ro + ja * 5 + 1, none⟩ = some (.int .i64 rv) := hBr 1 _ rfl
  have g2 : y4.cell? ⟨rb, ro + ja * 5 + 2, none⟩ = some (.bool rr) := hBr 2 _ rfl
  have g3 : y4.cell? ⟨rb, ro + ja * 5 + 3, none⟩ = some (.bool rw_) := hBr 3 _ rfl
  have g4 : y4.cell? ⟨rb, ro + ja * 5 + 4, none⟩ = some (.bool rk) := hBr 4 _ rfl
  have hbl1 := cell_lt f5
  have hbl2 := cell_lt g0'
  have hbl3 := cell_lt c0
  clear hA hB hBr hr er1 ea1 eth1
  go_upto_region 8 with fail
  go_region
  have K5 := Lib.hid ((K4.out.new 34 (R5.cs ⟨rt, rv, rr, rw_, rk⟩)).drew)
  have B5 := Lib.hid (((Below.refl y4.heap.size y4).alloc (Nat.le_refl _) (.cells (R5.cs ⟨rt, rv, rr, rw_, rk⟩) 34)).drew)
  have T5 := Lib.hid (T4.out.stay B5.out)
  have P5 := Lib.hid (P4.out.stay B5.out)
  obtain ⟨Y, hY⟩ : ∃ Y, (y4.alloc (.cells (R5.cs ⟨rt, rv, rr, rw_, rk⟩) 34)).drew = Y := ⟨_, rfl⟩
  rw [hY] at K5 B5 T5 P5 ⊢
  clear hY K4 T4 P4 f5 g0' g1 g2 g3 g4 c0 c1 c2 c3 c4
  have c0 := K5.out.c (b := y0.heap.size) (T := 25) (vs := C5.cs ⟨ck, (jr : Int) + 1, (ja : Int), (jb : Int), cn⟩) (by simp) 0 _ rfl
  have c1 := K5.out.c (b := y0.heap.size) (T := 25) (vs := C5.cs ⟨ck, (jr : Int) + 1, (ja : Int), (jb : Int), cn⟩) (by simp) 1 _ rfl
  have c2 := K5.out.c (b := y0.heap.size) (T := 25) (vs := C5.cs ⟨ck, (jr : Int) + 1, (ja : Int), (jb : Int), cn⟩) (by simp) 2 _ rfl
  have c3 := K5.out.c (b := y0.heap.size) (T := 25) (vs := C5.cs ⟨ck, (jr : Int) + 1, (ja : Int), (jb : Int), cn⟩) (by simp) 3 _ rfl
  have c4 := K5.out.c (b := y0.heap.size) (T := 25) (vs := C5.cs ⟨ck, (jr : Int) + 1, (ja : Int), (jb : Int), cn⟩) (by simp) 4 _ rfl
  have r0 := K5.out.c (b := y4.heap.size) (T := 34) (vs := R5.cs ⟨rt, rv, rr, rw_, rk⟩) (by simp) 0 _ rfl
  by_cases hk1 : ¬ ck = 8
  · have hk1' : (ck == 8) = false := by simpa using hk1
    have hk1'' : (ck != 8) = true := by simpa using hk1
    clear hk1
    go_wp2
    go_ret
    exact ⟨rfl, K5.out.1⟩
  obtain rfl : ck = 8 := Classical.not_not.1 hk1
  clear hk1
  by_cases ha0 : ¬ ans = 0
  · have ha0' : (ans == 0) = false := by simpa using ha0
    have ha0'' : (ans != 0) = true := by simpa using ha0
    clear ha0
    go_wp2
    go_ret
    exact ⟨rfl, K5.out.1⟩
  obtain rfl : ans = 0 := Classical.not_not.1 ha0
  have hans0 : (0 : Int) ≤ 0 := by decide
  clear ha0
  have h0 := pass_of HO.out (by rw [← HXA.out.2]; exact hans0)
  obtain ⟨jo, hjo, hro, hnj⟩ := obj_get HO.out h0 (show (8 : Int) ≠ 3 by decide) hjr rfl
  have hjo' : (jo : Int) < (l.length : Int) := by omega
  have wo : wrap64 ((jo : Int) + 1 - 1) = (jo : Int) := by unfold wrap64; omega
  have wo2 : IntKind.i64.wrap (jo : Int) = (jo : Int) := IntWalk.i64_in _ (by omega)
  have HH0 := Lib.hid h0
  have HRO := Lib.hid hro
  have HNJ := Lib.hid hnj
  clear h0 hro hnj
  have hrt : rt = (jo : Int) + 1 := by have := HRO.out; rw [HR.out] at this; exact this
  subst hrt
  obtain ⟨v, hv⟩ : ∃ v, chkSees l ((jr : Int) + 1) ((jo : Int) + 1) = v := ⟨_, rfl⟩
  have E3 := Lib.hid hv
  have HSS := Lib.hid (show v = true → seesT (l[jr]'hjr) (l[jo]'hjo) = true from fun h => by
    have hin : inR ((jo : Int) + 1) 1 l.length = true := by simp [inR]; omega
    have := chkSees_run HO.out.1 hin
    dsimp only at this
    rw [hv, thAt_of hjr (by omega), thAt_of hjo (by omega)] at this
    rw [← this]; exact h)
  clear hv
  go_wp2_with fail
  refine (implCheckSees_val (s := ⟨some ⟨g, 0, none⟩, l.length, c⟩) E3.out _ T5.out (HF.out.stay K5.out.1) hz).mono ?_
  rintro e y6 ⟨rfl, hb⟩
  have K6 := Lib.hid (K5.out.stay hb)
  have T6 := Lib.hid (T5.out.stay hb)
  have P6 := Lib.hid (P5.out.stay hb)
  clear hb K5 T5 P5 c0 c1 c2 c3 c4 r0
  cases v
  · go_wp2
    go_ret
    exact ⟨rfl, K6.out.1⟩
  have HG := Lib.hid (gone_twice HO.out rfl (by rw [← HXA.out.2]) hjr rfl hjo (by rw [HR.out]) (HSS.out rfl))
  have HON := Lib.hid (show OkC x ⟨8, (jr : Int) + 1, (ja : Int), (jb : Int), cn⟩ by rw [HXA.out.1]; exact HO.out.on HO.out)
  obtain ⟨Xa, Aa, hv⟩ : ∃ X A, callV x ⟨8, (jr : Int) + 1, (ja : Int), (jb : Int), cn⟩ = (X, A) := ⟨_, _, rfl⟩
  have HVa := Lib.hid hv
  have HDa := Lib.hid (show Xa = (doV x ⟨8, (jr : Int) + 1, (ja : Int), (jb : Int), cn⟩).1 ∧ Aa = (doV x ⟨8, (jr : Int) + 1, (ja : Int), (jb : Int), cn⟩).2 by
    rw [callV_ok HON.out] at hv
    rw [hv]; exact ⟨rfl, rfl⟩)
  have HMa := Lib.hid (call_sm hv)
  clear hv
  obtain rfl : Aa = -3 := HDa.out.2.trans (by rw [HXA.out.1]; exact HG.out.1)
  have HVX := Lib.hid (show (x[jo]'(by rw [HXL.out]; exact hjo)).vers = (l[jo]'hjo).vers + 1 by
    rw [get_of HXA.out.1 (i := jo) (by rw [HXL.out]; exact hjo)]; exact HG.out.2)
  have HVB := Lib.hid (okT_vers (tab_okT HO.out.tab hjo))
  have c0 := K6.out.c (b := y0.heap.size) (T := 25) (vs := C5.cs ⟨8, (jr : Int) + 1, (ja : Int), (jb : Int), cn⟩) (by simp) 0 _ rfl
  have c1 := K6.out.c (b := y0.heap.size) (T := 25) (vs := C5.cs ⟨8, (jr : Int) + 1, (ja : Int), (jb : Int), cn⟩) (by simp) 1 _ rfl
  have c2 := K6.out.c (b := y0.heap.size) (T := 25) (vs := C5.cs ⟨8, (jr : Int) + 1, (ja : Int), (jb : Int), cn⟩) (by simp) 2 _ rfl
  have c3 := K6.out.c (b := y0.heap.size) (T := 25) (vs := C5.cs ⟨8, (jr : Int) + 1, (ja : Int), (jb : Int), cn⟩) (by simp) 3 _ rfl
  have c4 := K6.out.c (b := y0.heap.size) (T := 25) (vs := C5.cs ⟨8, (jr : Int) + 1, (ja : Int), (jb : Int), cn⟩) (by simp) 4 _ rfl
  go_wp2_with fail
  refine (implDo_val (s := ⟨some ⟨gx, 0, none⟩, l.length, cx⟩) (c := ⟨8, (jr : Int) + 1, (ja : Int), (jb : Int), cn⟩) HVa.out _ P6.out (HF.out.stay K6.out.1) (HE.out.stay K6.out.1) HSX.out.1).mono ?_
  rintro e y7 ⟨sa, tsa, rfl, ta, hma, hb⟩
  have K7 := Lib.hid (K6.out.stay hb)
  have Pa := Lib.hid (hma ▸ ta.hasT)
  have HAa := Lib.hid (show 0 < tsa.length → ∃ gg, sa.a = some ⟨gg, 0, none⟩ from fun h => by
    obtain ⟨gg, cur, e, -⟩ := ta.1.form h
    exact ⟨gg, e⟩)
  have HMMa := Lib.hid hma
  have T7 := Lib.hid (T6.out.stay hb)
  have P7 := Lib.hid (P6.out.stay hb)
  clear hb ta hma K6 T6 P6 c0 c1 c2 c3 c4
  obtain ⟨so, qo, -, -, hAo⟩ := T7.out.cells hjo
  obtain ⟨sx, qx, -, -, hAx⟩ := P7.out.cells (i := jo) (by rw [HXL.out]; exact hjo)
  obtain ⟨ve, hve⟩ : ∃ ve, (l[jo]'hjo).vers = ve := ⟨_, rfl⟩
  have d3 : y7.cell? ⟨g, jo * 8 + 3, none⟩ = some (.int .i64 ve) := by rw [← hve]; exact hAo 3 _ rfl
  have e3 : y7.cell? ⟨gx, jo * 8 + 3, none⟩ = some (.int .i64 (ve + 1)) := by rw [← hve, ← HVX.out]; exact hAx 3 _ rfl
  have hvb := HVB.out
  rw [hve] at hvb
  have wv : wrap64 (ve + 1) = ve + 1 := by unfold wrap64; omega
  have wv2 : IntKind.i64.wrap (ve + 1) = ve + 1 := IntWalk.i64_in _ (by omega)
  clear hAo hAx hve hvb
  have r0 := K7.out.c (b := y4.heap.size) (T := 34) (vs := R5.cs ⟨(jo : Int) + 1, rv, rr, rw_, rk⟩) (by simp) 0 _ rfl
  go_upto_region 12 with fail
  go_quiet (fail)
  go_wp2
  go_ret
  exact ⟨by simp [*], (K7.out.drewN _).1⟩
end Go.Proofs.YtbopficnajdaoaaGreatDoor
