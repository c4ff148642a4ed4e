/-
  The walk of laws.FnBlindSame.
-/
import Derived.Test.YtgpiclngkmjnpaaGreatDoorLdM
namespace Go.Proofs.YtgpiclngkmjnpaaGreatDoor
open Go.RowKit
set_option maxRecDepth 100000
set_option linter.unusedVariables false

set_option maxHeartbeats 16000000 in
theorem walk_FnBlindSame (a0 : Option Addr) (len0 cap0 : Nat) (z0 : List Int) (w : World) (hKF : KF w) (hET : ET w) (w0 : IsRow .u8 w a0 len0 cap0 z0) :
    Calls Tryz.prog 11 #[.slice a0 len0 cap0] w fun e w' => e = .returned (.bool true) ∧ Below w.heap.size w w' := by
  by_cases g0 : (1048576 : Int) < (len0 : Int)
  · go_enter Tryz.func11, Tryz.ntmps11
    go_wp2
    go_ret
    exact ⟨rfl, Below.refl _ _⟩
  have W0 := Lib.hid w0
  have HF := Lib.hid hKF
  have HE := Lib.hid hET
  clear w0 hKF hET
  go_enter Tryz.func11, Tryz.ntmps11
  go_wp2_with fail
  refine (drawCD_any a0 len0 cap0 z0 _ W0.out).mono ?_
  rintro e y0 ⟨g, c, l, q, rfl, hT, l3, l8, hzs, hb⟩
  have K0 := Lib.hid ((Kn.start hb).new 25 (C5.cs q))
  have T0 := Lib.hid (hT.stay ((Below.refl _ _).alloc (Nat.le_refl _) (.cells (C5.cs q) 25)))
  have HZS := Lib.hid hzs
  have hz : l.length ≤ 1048576 := by omega
  clear W0 hb hT hzs
  obtain ⟨x, ans, hv⟩ : ∃ x ans, callV l q = (x, ans) := ⟨_, _, rfl⟩
  have HV := Lib.hid hv
  have HSX := Lib.hid (call_sm hv)
  clear hv
  go_wp2_with fail
  refine (specDo_val (s := ⟨some ⟨g, 0, none⟩, l.length, c⟩) HV.out _ T0.out hz HZS.out).mono ?_
  rintro e y1 ⟨s1, ts1, rfl, t1, hm1, hb⟩
  have K1 := Lib.hid (K0.out.stay hb)
  have T1 := Lib.hid (T0.out.stay hb)
  have X1 := Lib.hid (show HasT y1 s1 x from hm1 ▸ t1.hasT)
  clear hb t1 hm1 K0 T0
  have c0 := K1.out.c (b := y0.heap.size) (T := 25) (vs := C5.cs q) (by simp) 0 _ rfl
  have c1 := K1.out.c (b := y0.heap.size) (T := 25) (vs := C5.cs q) (by simp) 1 _ rfl
  have c2 := K1.out.c (b := y0.heap.size) (T := 25) (vs := C5.cs q) (by simp) 2 _ rfl
  have c3 := K1.out.c (b := y0.heap.size) (T := 25) (vs := C5.cs q) (by simp) 3 _ rfl
  have c4 := K1.out.c (b := y0.heap.size) (T := 25) (vs := C5.cs q) (by simp) 4 _ rfl
  go_wp2_with fail
  refine (implDo_val (s := ⟨some ⟨g, 0, none⟩, l.length, c⟩) HV.out _ T1.out (HF.out.stay K1.out.1) (HE.out.stay K1.out.1) hz).mono ?_
  rintro e y2 ⟨s2, ts2, rfl, t2, hm2, hb⟩
  have K2 := Lib.hid (K1.out.stay hb)
  have T2 := Lib.hid (T1.out.stay hb)
  have X2 := Lib.hid (X1.out.stay hb)
  have P2 := Lib.hid (show HasT y2 s2 x from hm2 ▸ t2.hasT)
  have HA2 := Lib.hid (show 0 < x.length → ∃ gx, s2.a = some ⟨gx, 0, none⟩ from fun h => by
    obtain ⟨gx, cur, e, -⟩ := t2.1.form (by have := congrArg List.length hm2; simp at this; omega)
    exact ⟨gx, e⟩)
  clear hb t2 hm2 K1 T1 X1 c0 c1 c2 c3 c4
  go_wp2_with fail
  refine (ldTable_same x s2 s1 _ P2.out X2.out HSX.out.1 HSX.out.2).mono ?_
  rintro e y3 ⟨rfl, hb⟩
  have K3 := Lib.hid (K2.out.stay hb)
  have T3 := Lib.hid (T2.out.stay hb)
  have X3 := Lib.hid (X2.out.stay hb)
  have P3 := Lib.hid (P2.out.stay hb)
  clear hb K2 T2 X2 P2
  have c0 := K3.out.c (b := y0.heap.size) (T := 25) (vs := C5.cs q) (by simp) 0 _ rfl
  have c1 := K3.out.c (b := y0.heap.size) (T := 25) (vs := C5.cs q) (by simp) 1 _ rfl
  have c2 := K3.out.c (b := y0.heap.size) (T := 25) (vs := C5.cs q) (by simp) 2 _ rfl
  have c3 := K3.out.c (b := y0.heap.size) (T := 25) (vs := C5.cs q) (by simp) 3 _ rfl
  have c4 := K3.out.c (b := y0.heap.size) (T := 25) (vs := C5.cs q) (by simp) 4 _ rfl
  go_wp2_with fail
  refine (ldCan_any l g l.length c q _ T3.out rfl (HF.out.stay K3.out.1) hz).mono ?_
  rintro e y4 ⟨v, rfl, hv, hb⟩
  have HVV := Lib.hid hv
  have K4 := Lib.hid (K3.out.stay hb)
  have T4 := Lib.hid (T3.out.stay hb)
  have X4 := Lib.hid (X3.out.stay hb)
  have P4 := Lib.hid (P3.out.stay hb)
  clear hb hv K3 T3 X3 P3 c0 c1 c2 c3 c4
  cases v
  · go_wp2_with fail
    refine (ldTable_same x s2 s1 _ P4.out X4.out HSX.out.1 HSX.out.2).mono ?_
    rintro e y5 ⟨rfl, hb⟩
    have HB := Lib.hid (K4.out.stay hb).1
    clear hb
    go_wp2
    go_ret
    exact ⟨rfl, HB.out⟩
  have HO := Lib.hid (HVV.out.1 rfl)
  have HXA := Lib.hid (show x = (doV l q).1 ∧ ans = (doV l q).2 by
    have := HV.out
    rw [callV_ok HO.out] at this
    rw [this]; exact ⟨rfl, rfl⟩)
  have hxl : x.length = l.length := by rw [HXA.out.1, do_len]
  obtain ⟨gx, hs2⟩ := HA2.out (by omega)
  have hsn : s2.n = l.length := by rw [P4.out.1, hxl]
  have HXL := Lib.hid hxl
  obtain ⟨s2a, s2n, cx⟩ := s2
  dsimp only at hs2 hsn
  subst hs2 hsn
  obtain ⟨jr, hjr, hcr, hth, hkr⟩ := HO.out.run
  have hbd := C5.bd HO.out.2
  obtain ⟨ck, cr, ca, cbb, cn⟩ := q
  dsimp only at *
  subst hcr
  obtain ⟨ja, rfl⟩ : ∃ ja : Nat, ca = ja := ⟨ca.toNat, by omega⟩
  obtain ⟨jb, rfl⟩ : ∃ jb : Nat, cbb = jb := ⟨cbb.toNat, by omega⟩
  have hja : ja < 4 := by omega
  have hjb : jb < 4 := by omega
  have hjr' : (jr : Int) < (l.length : Int) := by omega
  have hja' : (ja : Int) < 4 := by omega
  have hjb' : (jb : Int) < 4 := by omega
  have wr : wrap64 ((jr : Int) + 1 - 1) = (jr : Int) := by unfold wrap64; omega
  have wr2 : IntKind.i64.wrap (jr : Int) = (jr : Int) := IntWalk.i64_in _ (by omega)
  have HBD := Lib.hid hbd
  have HTH := Lib.hid hth
  have HKR := Lib.hid hkr
  clear hbd hth hkr hxl HA2 HV HVV X4 HZS
  have c0 := K4.out.c (b := y0.heap.size) (T := 25) (vs := C5.cs ⟨ck, (jr : Int) + 1, (ja : Int), (jb : Int), cn⟩) (by simp) 0 _ rfl
  have c1 := K4.out.c (b := y0.heap.size) (T := 25) (vs := C5.cs ⟨ck, (jr : Int) + 1, (ja : Int), (jb : Int), cn⟩) (by simp) 1 _ rfl
  have c2 := K4.out.c (b := y0.heap.size) (T := 25) (vs := C5.cs ⟨ck, (jr : Int) + 1, (ja : Int), (jb : Int), cn⟩) (by simp) 2 _ rfl
  have c3 := K4.out.c (b := y0.heap.size) (T := 25) (vs := C5.cs ⟨ck, (jr : Int) + 1, (ja : Int), (jb : Int), cn⟩) (by simp) 3 _ rfl
  have c4 := K4.out.c (b := y0.heap.size) (T := 25) (vs := C5.cs ⟨ck, (jr : Int) + 1, (ja : Int), (jb : Int), cn⟩) (by simp) 4 _ rfl
  obtain ⟨jr1, ja1, hjr1, rb, ro, sc, qs, er1, ea1, -, eth1, hA, hB, -⟩ := slot_at T4.out HO.out.1 HO.out.2
  obtain rfl : jr = jr1 := by dsimp only at er1; omega
  obtain rfl : ja = ja1 := by dsimp only at ea1; omega
  obtain ⟨r, hr⟩ : ∃ r, rOf l ⟨ck, (jr : Int) + 1, (ja : Int), (jb : Int), cn⟩ = r := ⟨_, rfl⟩
  have hBr : At y4 rb (ro + ja * 5) r.cs := by rw [← hr]; exact hB
  obtain ⟨rt, rv, rr, rw_, rk⟩ := r
  have HR := Lib.hid hr
  have f5 : y4.cell? ⟨g, jr * 8 + 5, none⟩ = some (.slice (some ⟨rb, ro, none⟩) 4 sc) := hA 5 _ rfl
  have g0' : y4.cell? ⟨rb, ro + ja * 5, none⟩ = some (.int .i64 rt) := hBr 0 _ rfl
  have g1 : y4.cell? ⟨rb, ro + ja * 5 + 1, none⟩ = some (.int .i64 rv) := hBr 1 _ rfl
  have g2 : y4.cell? ⟨rb, ro + ja * 5 + 2, none⟩ = some (.bool rr) := hBr 2 _ rfl
  have g3 : y4.cell? ⟨rb, ro + ja * 5 + 3, none⟩ = some (.bool rw_) := hBr 3 _ rfl
  have g4 : y4.cell? ⟨rb, ro + ja * 5 + 4, none⟩ = some (.bool rk) := hBr 4 _ rfl
  have hbl1 := cell_lt f5
  have hbl2 := cell_lt g0'
  have hbl3 := cell_lt c0
  clear hA hB hBr hr er1 ea1 eth1
  go_upto_region 8 with fail
  go_region
  have K5 := Lib.hid ((K4.out.new 42 (R5.cs ⟨rt, rv, rr, rw_, rk⟩)).drew)
  have B5 := Lib.hid (((Below.refl y4.heap.size y4).alloc (Nat.le_refl _) (.cells (R5.cs ⟨rt, rv, rr, rw_, rk⟩) 42)).drew)
  have T5 := Lib.hid (T4.out.stay B5.out)
  have P5 := Lib.hid (P4.out.stay B5.out)
  obtain ⟨Y, hY⟩ : ∃ Y, (y4.alloc (.cells (R5.cs ⟨rt, rv, rr, rw_, rk⟩) 42)).drew = Y := ⟨_, rfl⟩
  rw [hY] at K5 B5 T5 P5 ⊢
  clear hY K4 T4 P4 f5 g0' g1 g2 g3 g4 c0 c1 c2 c3 c4
  have c0 := K5.out.c (b := y0.heap.size) (T := 25) (vs := C5.cs ⟨ck, (jr : Int) + 1, (ja : Int), (jb : Int), cn⟩) (by simp) 0 _ rfl
  have c1 := K5.out.c (b := y0.heap.size) (T := 25) (vs := C5.cs ⟨ck, (jr : Int) + 1, (ja : Int), (jb : Int), cn⟩) (by simp) 1 _ rfl
  have c2 := K5.out.c (b := y0.heap.size) (T := 25) (vs := C5.cs ⟨ck, (jr : Int) + 1, (ja : Int), (jb : Int), cn⟩) (by simp) 2 _ rfl
  have c3 := K5.out.c (b := y0.heap.size) (T := 25) (vs := C5.cs ⟨ck, (jr : Int) + 1, (ja : Int), (jb : Int), cn⟩) (by simp) 3 _ rfl
  have c4 := K5.out.c (b := y0.heap.size) (T := 25) (vs := C5.cs ⟨ck, (jr : Int) + 1, (ja : Int), (jb : Int), cn⟩) (by simp) 4 _ rfl
  have r0 := K5.out.c (b := y4.heap.size) (T := 42) (vs := R5.cs ⟨rt, rv, rr, rw_, rk⟩) (by simp) 0 _ rfl
  by_cases h3 : ck = 3
  · subst h3
    go_wp2
    go_ret
    exact ⟨rfl, K5.out.1⟩
  have h3' : (ck == 3) = false := by simpa using h3
  by_cases h0 : rt = 0
  · subst h0
    go_wp2
    go_ret
    exact ⟨rfl, K5.out.1⟩
  have h0' : (rt == 0) = false := by simpa using h0
  obtain ⟨v, hv⟩ : ∃ v, chkSees l ((jr : Int) + 1) rt = v := ⟨_, rfl⟩
  have E3 := Lib.hid hv
  have HBL := Lib.hid (show v = false → ans = -1 ∨ ans = -2 ∨ ans = 0 from fun h => by
    have hri := rOf_in HO.out
    rw [HR.out] at hri
    have h1 := R5.bd hri.1
    have h2 := hri.2
    simp only [rightIn, Bool.not_eq_true', Bool.or_eq_false_iff, decide_eq_false_iff_not] at h2
    dsimp only at h1 h2
    have hin : inR rt 1 l.length = true := by simp [inR]; omega
    rw [chkSees_run HO.out.1 hin] at hv
    rw [HXA.out.2]
    refine do_blind HO.out h3 ?_
    rw [HR.out]
    dsimp only
    rw [hv, h])
  clear hv h3 h0
  go_wp2_with fail
  refine (implCheckSees_val (s := ⟨some ⟨g, 0, none⟩, l.length, c⟩) E3.out _ T5.out (HF.out.stay K5.out.1) hz).mono ?_
  rintro e y6 ⟨rfl, hb⟩
  have K6 := Lib.hid (K5.out.stay hb)
  clear hb K5 T5 P5 c0 c1 c2 c3 c4 r0
  cases v
  · have hx := HBL.out rfl
    clear HBL HXA
    rcases hx with rfl | rfl | rfl
    all_goals
      go_wp2
      go_ret
      exact ⟨rfl, K6.out.1⟩
  · go_wp2
    go_ret
    exact ⟨rfl, K6.out.1⟩
end Go.Proofs.YtgpiclngkmjnpaaGreatDoor
