/-
  The walk of laws.FnSendTwo.
-/
import Derived.Test.YtbopficnajdaoaaGreatDoorLdM
namespace Go.Proofs.YtbopficnajdaoaaGreatDoor
open Go.RowKit
set_option maxRecDepth 100000
set_option linter.unusedVariables false

theorem ok_mk {l : List T8} {q : C5} (h : OkC l q) {k b n : Int} (hk : 1 ≤ k ∧ k ≤ 9) (hb : 0 ≤ b ∧ b ≤ 3) (hn : 0 ≤ n ∧ n ≤ 99) : OkC l ⟨k, q.r, q.a, b, n⟩ := by
  refine h.as rfl ?_
  have := C5.bd h.2
  simp only [C5.ok, Bool.and_eq_true]
  simp [inR]
  omega
theorem wrap90 {n : Nat} (h : n < 90) : wrap64 ((n : Int) + 1) = (n : Int) + 1 ∧ IntKind.i64.wrap ((n : Int) + 1) = (n : Int) + 1 :=
  ⟨by unfold wrap64; omega, IntWalk.i64_in _ (by omega)⟩
set_option maxHeartbeats 16000000 in
theorem walk_FnSendTwo (a0 : Option Addr) (len0 cap0 : Nat) (z0 : List Int) (a1 : Option Addr) (len1 cap1 : Nat) (z1 : List Int) (w : World) (hKF : KF w) (hET : ET w) (w0 : IsRow .u8 w a0 len0 cap0 z0) (w1 : IsRow .u8 w a1 len1 cap1 z1) :
    Calls Tryz.prog 9 #[.slice a0 len0 cap0, .slice a1 len1 cap1] w fun e w' => e = .returned (.bool true) ∧ Below w.heap.size w w' := by
  by_cases g0 : (1048576 : Int) < (len0 : Int)
  · go_enter Tryz.func9, Tryz.ntmps9
    go_wp2
    go_ret
    exact ⟨rfl, Below.refl _ _⟩
  by_cases g1 : (1048576 : Int) < (len1 : Int)
  · go_enter Tryz.func9, Tryz.ntmps9
    go_wp2
    go_ret
    exact ⟨rfl, Below.refl _ _⟩
  have W0 := Lib.hid w0
  have HF := Lib.hid hKF
  have HE := Lib.hid hET
  clear w0 w1 hKF hET
  go_enter Tryz.func9, Tryz.ntmps9
  go_wp2_with fail
  refine (drawCD_any a0 len0 cap0 z0 _ W0.out).mono ?_
  rintro e y0 ⟨g, c, l, q, rfl, hT, l3, l8, hzs, hb⟩
  have K0 := Lib.hid ((Kn.start hb).new 25 (C5.cs q))
  have T0 := Lib.hid (hT.stay ((Below.refl _ _).alloc (Nat.le_refl _) (.cells (C5.cs q) 25)))
  have HZS := Lib.hid hzs
  have hz : l.length ≤ 1048576 := by omega
  clear W0 hb hT hzs
  obtain ⟨x, ans, hv⟩ : ∃ x ans, callV l q = (x, ans) := ⟨_, _, rfl⟩
  have HV := Lib.hid hv
  have HSX := Lib.hid (call_sm hv)
  clear hv
  go_wp2_with fail
  refine (specDo_val (s := ⟨some ⟨g, 0, none⟩, l.length, c⟩) HV.out _ T0.out hz HZS.out).mono ?_
  rintro e y1 ⟨s1, ts1, rfl, t1, hm1, hb⟩
  have K1 := Lib.hid (K0.out.stay hb)
  have T1 := Lib.hid (T0.out.stay hb)
  have X1 := Lib.hid (show HasT y1 s1 x from hm1 ▸ t1.hasT)
  clear hb t1 hm1 K0 T0
  have c0 := K1.out.c (b := y0.heap.size) (T := 25) (vs := C5.cs q) (by simp) 0 _ rfl
  have c1 := K1.out.c (b := y0.heap.size) (T := 25) (vs := C5.cs q) (by simp) 1 _ rfl
  have c2 := K1.out.c (b := y0.heap.size) (T := 25) (vs := C5.cs q) (by simp) 2 _ rfl
  have c3 := K1.out.c (b := y0.heap.size) (T := 25) (vs := C5.cs q) (by simp) 3 _ rfl
  have c4 := K1.out.c (b := y0.heap.size) (T := 25) (vs := C5.cs q) (by simp) 4 _ rfl
  go_wp2_with fail
  refine (implDo_val (s := ⟨some ⟨g, 0, none⟩, l.length, c⟩) HV.out _ T1.out (HF.out.stay K1.out.1) (HE.out.stay K1.out.1) hz).mono ?_
  rintro e y2 ⟨s2, ts2, rfl, t2, hm2, hb⟩
  have K2 := Lib.hid (K1.out.stay hb)
  have T2 := Lib.hid (T1.out.stay hb)
  have X2 := Lib.hid (X1.out.stay hb)
  have P2 := Lib.hid (show HasT y2 s2 x from hm2 ▸ t2.hasT)
  have HA2 := Lib.hid (show 0 < x.length → ∃ gx, s2.a = some ⟨gx, 0, none⟩ from fun h => by
    obtain ⟨gx, cur, e, -⟩ := t2.1.form (by have := congrArg List.length hm2; simp at this; omega)
    exact ⟨gx, e⟩)
  clear hb t2 hm2 K1 T1 X1 c0 c1 c2 c3 c4
  go_wp2_with fail
  refine (ldTable_same x s2 s1 _ P2.out X2.out HSX.out.1 HSX.out.2).mono ?_
  rintro e y3 ⟨rfl, hb⟩
  have K3 := Lib.hid (K2.out.stay hb)
  have T3 := Lib.hid (T2.out.stay hb)
  have X3 := Lib.hid (X2.out.stay hb)
  have P3 := Lib.hid (P2.out.stay hb)
  clear hb K2 T2 X2 P2
  have c0 := K3.out.c (b := y0.heap.size) (T := 25) (vs := C5.cs q) (by simp) 0 _ rfl
  have c1 := K3.out.c (b := y0.heap.size) (T := 25) (vs := C5.cs q) (by simp) 1 _ rfl
  have c2 := K3.out.c (b := y0.heap.size) (T := 25) (vs := C5.cs q) (by simp) 2 _ rfl
  have c3 := K3.out.c (b := y0.heap.size) (T := 25) (vs := C5.cs q) (by simp) 3 _ rfl
  have c4 := K3.out.c (b := y0.heap.size) (T := 25) (vs := C5.cs q) (by simp) 4 _ rfl
  go_wp2_with fail
  refine (ldCan_any l g l.length c q _ T3.out rfl (HF.out.stay K3.out.1) hz).mono ?_
  rintro e y4 ⟨v, rfl, hv, hb⟩
  have HVV := Lib.hid hv
  have K4 := Lib.hid (K3.out.stay hb)
  have T4 := Lib.hid (T3.out.stay hb)
  have X4 := Lib.hid (X3.out.stay hb)
  have P4 := Lib.hid (P3.out.stay hb)
  clear hb hv K3 T3 X3 P3 c0 c1 c2 c3 c4
  cases v
  · go_wp2_with fail
    refine (ldTable_same x s2 s1 _ P4.out X4.out HSX.out.1 HSX.out.2).mono ?_
    rintro e y5 ⟨rfl, hb⟩
    have HB := Lib.hid (K4.out.stay hb).1
    clear hb
    go_wp2
    go_ret
    exact ⟨rfl, HB.out⟩
  have HO := Lib.hid (HVV.out.1 rfl)
  have HXA := Lib.hid (show x = (doV l q).1 ∧ ans = (doV l q).2 by
    have := HV.out
    rw [callV_ok HO.out] at this
    rw [this]; exact ⟨rfl, rfl⟩)
  have hxl : x.length = l.length := by rw [HXA.out.1, do_len]
  obtain ⟨gx, hs2⟩ := HA2.out (by omega)
  have hsn : s2.n = l.length := by rw [P4.out.1, hxl]
  have HXL := Lib.hid hxl
  obtain ⟨s2a, s2n, cx⟩ := s2
  dsimp only at hs2 hsn
  subst hs2 hsn
  obtain ⟨jr, hjr, hcr, hth, hkr⟩ := HO.out.run
  have hbd := C5.bd HO.out.2
  obtain ⟨ck, cr, ca, cbb, cn⟩ := q
  dsimp only at *
  subst hcr
  obtain ⟨ja, rfl⟩ : ∃ ja : Nat, ca = ja := ⟨ca.toNat, by omega⟩
  obtain ⟨jb, rfl⟩ : ∃ jb : Nat, cbb = jb := ⟨cbb.toNat, by omega⟩
  have hja : ja < 4 := by omega
  have hjb : jb < 4 := by omega
  have hjr' : (jr : Int) < (l.length : Int) := by omega
  have hja' : (ja : Int) < 4 := by omega
  have hjb' : (jb : Int) < 4 := by omega
  have wr : wrap64 ((jr : Int) + 1 - 1) = (jr : Int) := by unfold wrap64; omega
  have wr2 : IntKind.i64.wrap (jr : Int) = (jr : Int) := IntWalk.i64_in _ (by omega)
  have HBD := Lib.hid hbd
  have HTH := Lib.hid hth
  have HKR := Lib.hid hkr
  clear hbd hth hkr hxl HA2 HV HVV X4 HZS
  have c0 := K4.out.c (b := y0.heap.size) (T := 25) (vs := C5.cs ⟨ck, (jr : Int) + 1, (ja : Int), (jb : Int), cn⟩) (by simp) 0 _ rfl
  have c1 := K4.out.c (b := y0.heap.size) (T := 25) (vs := C5.cs ⟨ck, (jr : Int) + 1, (ja : Int), (jb : Int), cn⟩) (by simp) 1 _ rfl
  have c2 := K4.out.c (b := y0.heap.size) (T := 25) (vs := C5.cs ⟨ck, (jr : Int) + 1, (ja : Int), (jb : Int), cn⟩) (by simp) 2 _ rfl
  have c3 := K4.out.c (b := y0.heap.size) (T := 25) (vs := C5.cs ⟨ck, (jr : Int) + 1, (ja : Int), (jb : Int), cn⟩) (by simp) 3 _ rfl
  have c4 := K4.out.c (b := y0.heap.size) (T := 25) (vs := C5.cs ⟨ck, (jr : Int) + 1, (ja : Int), (jb : Int), cn⟩) (by simp) 4 _ rfl
  obtain ⟨jr1, ja1, hjr1, rb, ro, sc, qs, er1, ea1, -, eth1, hA, hB, -⟩ := slot_at T4.out HO.out.1 HO.out.2
  obtain rfl : jr = jr1 := by dsimp only at er1; omega
  obtain rfl : ja = ja1 := by dsimp only at ea1; omega
  obtain ⟨r, hr⟩ : ∃ r, rOf l ⟨ck, (jr : Int) + 1, (ja : Int), (jb : Int), cn⟩ = r := ⟨_, rfl⟩
  have hBr : At y4 rb (ro + ja * 5) r.cs := by rw [← hr]; exact hB
  obtain ⟨rt, rv, rr, rw_, rk⟩ := r
  have HR := Lib.hid hr
  have f5 : y4.cell? ⟨g, jr * 8 + 5, none⟩ = some (.slice (some ⟨rb, ro, none⟩) 4 sc) := hA 5 _ rfl
  have g0' : y4.cell? ⟨rb, ro + ja * 5, none⟩ = some (.int .i64 rt) := hBr 0 _ rfl
  have g1 : y4.cell? ⟨rb, ro + ja * 5 + 1, none⟩ = some (.int .i64 rv) := hBr 1 _ rfl
  have g2 : y4.cell? ⟨rb, ro + ja * 5 + 2, none⟩ = some (.bool rr) := hBr 2 _ rfl
  have g3 : y4.cell? ⟨rb, ro + ja * 5 + 3, none⟩ = some (.bool rw_) := hBr 3 _ rfl
  have g4 : y4.cell? ⟨rb, ro + ja * 5 + 4, none⟩ = some (.bool rk) := hBr 4 _ rfl
  have hbl1 := cell_lt f5
  have hbl2 := cell_lt g0'
  have hbl3 := cell_lt c0
  clear hA hB hBr hr er1 ea1 eth1
  go_upto_region 8 with fail
  go_region
  have K5 := Lib.hid ((K4.out.new 34 (R5.cs ⟨rt, rv, rr, rw_, rk⟩)).drew)
  have B5 := Lib.hid (((Below.refl y4.heap.size y4).alloc (Nat.le_refl _) (.cells (R5.cs ⟨rt, rv, rr, rw_, rk⟩) 34)).drew)
  have T5 := Lib.hid (T4.out.stay B5.out)
  have P5 := Lib.hid (P4.out.stay B5.out)
  obtain ⟨Y, hY⟩ : ∃ Y, (y4.alloc (.cells (R5.cs ⟨rt, rv, rr, rw_, rk⟩) 34)).drew = Y := ⟨_, rfl⟩
  rw [hY] at K5 B5 T5 P5 ⊢
  clear hY K4 T4 P4 f5 g0' g1 g2 g3 g4 c0 c1 c2 c3 c4
  have c0 := K5.out.c (b := y0.heap.size) (T := 25) (vs := C5.cs ⟨ck, (jr : Int) + 1, (ja : Int), (jb : Int), cn⟩) (by simp) 0 _ rfl
  have c1 := K5.out.c (b := y0.heap.size) (T := 25) (vs := C5.cs ⟨ck, (jr : Int) + 1, (ja : Int), (jb : Int), cn⟩) (by simp) 1 _ rfl
  have c2 := K5.out.c (b := y0.heap.size) (T := 25) (vs := C5.cs ⟨ck, (jr : Int) + 1, (ja : Int), (jb : Int), cn⟩) (by simp) 2 _ rfl
  have c3 := K5.out.c (b := y0.heap.size) (T := 25) (vs := C5.cs ⟨ck, (jr : Int) + 1, (ja : Int), (jb : Int), cn⟩) (by simp) 3 _ rfl
  have c4 := K5.out.c (b := y0.heap.size) (T := 25) (vs := C5.cs ⟨ck, (jr : Int) + 1, (ja : Int), (jb : Int), cn⟩) (by simp) 4 _ rfl
  have r0 := K5.out.c (b := y4.heap.size) (T := 34) (vs := R5.cs ⟨rt, rv, rr, rw_, rk⟩) (by simp) 0 _ rfl
  have r1 := K5.out.c (b := y4.heap.size) (T := 34) (vs := R5.cs ⟨rt, rv, rr, rw_, rk⟩) (by simp) 1 _ rfl
  have r2 := K5.out.c (b := y4.heap.size) (T := 34) (vs := R5.cs ⟨rt, rv, rr, rw_, rk⟩) (by simp) 2 _ rfl
  have r3 := K5.out.c (b := y4.heap.size) (T := 34) (vs := R5.cs ⟨rt, rv, rr, rw_, rk⟩) (by simp) 3 _ rfl
  have r4 := K5.out.c (b := y4.heap.size) (T := 34) (vs := R5.cs ⟨rt, rv, rr, rw_, rk⟩) (by simp) 4 _ rfl
  by_cases h0 : rt = 0
  · subst h0
    go_upto_region 9 with fail
    go_quiet (fail)
    go_wp2
    go_ret
    exact ⟨rfl, (K5.out.drewN _).1⟩
  obtain ⟨jo, ejo⟩ : ∃ jo : Nat, rt = (jo : Int) + 1 := by
    have h1 := R5.bd (rOf_in HO.out).1
    rw [HR.out] at h1
    dsimp only at h1
    exact ⟨(rt - 1).toNat, by omega⟩
  subst ejo
  have hjo : jo < l.length := by
    have h2 := (rOf_in HO.out).2
    rw [HR.out] at h2
    simp only [rightIn, Bool.not_eq_true', Bool.or_eq_false_iff, decide_eq_false_iff_not] at h2
    omega
  clear h0
  have hjo' : (jo : Int) < (l.length : Int) := by omega
  have wo : wrap64 ((jo : Int) + 1 - 1) = (jo : Int) := by unfold wrap64; omega
  have wo2 : IntKind.i64.wrap (jo : Int) = (jo : Int) := IntWalk.i64_in _ (by omega)
  have nz : ((jo : Int) + 1 == 0) = false := by simp; omega
  have HRO := Lib.hid (show (rOf l ⟨ck, (jr : Int) + 1, (ja : Int), (jb : Int), cn⟩).t = (jo : Int) + 1 by rw [HR.out])
  obtain ⟨so, qo, -, HQo, hAo⟩ := T5.out.cells hjo
  obtain ⟨kd, hkd⟩ : ∃ kd, (l[jo]'hjo).kind = kd := ⟨_, rfl⟩
  have d0 : Y.cell? ⟨g, jo * 8, none⟩ = some (.int .i64 kd) := by rw [← hkd]; exact hAo 0 _ rfl
  have HKD := Lib.hid hkd
  clear hkd
  have hqn := HQo.len
  have d6 : Y.cell? ⟨g, jo * 8 + 6, none⟩ = some (.slice qo.a qo.n qo.c) := hAo 6 _ rfl
  obtain ⟨qa, qn, qc⟩ := qo
  dsimp only at hqn d6
  have HQN := Lib.hid hqn
  clear hqn
  obtain ⟨sr, qr, -, -, hAr⟩ := T5.out.cells hjr
  obtain ⟨s1', hs1⟩ : ∃ s, (l[jo]'hjo).sec = s := ⟨_, rfl⟩
  obtain ⟨v1', hv1⟩ : ∃ s, (l[jo]'hjo).vou = s := ⟨_, rfl⟩
  obtain ⟨s2', hs2⟩ : ∃ s, (l[jr]'hjr).sec = s := ⟨_, rfl⟩
  obtain ⟨v2', hv2⟩ : ∃ s, (l[jr]'hjr).vou = s := ⟨_, rfl⟩
  have d1 : Y.cell? ⟨g, jo * 8 + 1, none⟩ = some (.int .i64 s1') := by rw [← hs1]; exact hAo 1 _ rfl
  have d2 : Y.cell? ⟨g, jo * 8 + 2, none⟩ = some (.int .i64 v1') := by rw [← hv1]; exact hAo 2 _ rfl
  have e1 : Y.cell? ⟨g, jr * 8 + 1, none⟩ = some (.int .i64 s2') := by rw [← hs2]; exact hAr 1 _ rfl
  have e2 : Y.cell? ⟨g, jr * 8 + 2, none⟩ = some (.int .i64 v2') := by rw [← hv2]; exact hAr 2 _ rfl
  have HS1 := Lib.hid hs1
  have HV1 := Lib.hid hv1
  have HS2 := Lib.hid hs2
  have HV2 := Lib.hid hv2
  clear hs1 hv1 hs2 hv2 hAr
  clear hAo HQo
  by_cases hk : ¬ kd = 4
  · have hk' : (kd == 4) = false := by simpa using hk
    have hk'' : (kd != 4) = true := by simpa using hk
    clear hk
    go_upto_region 9 with fail
    go_quiet (fail)
    go_wp2
    go_ret
    exact ⟨rfl, (K5.out.drewN _).1⟩
  obtain rfl : kd = 4 := Classical.not_not.1 hk
  clear hk
  by_cases hq0 : ¬ qn = 0
  · have hq0' : (0 : Int) < (qn : Int) := by omega
    have hq0n : 0 < qn := by omega
    have hq0d : decide ((0 : Int) < (qn : Int)) = true := by simpa using hq0n
    clear hq0
    go_upto_region 9 with fail
    go_quiet (fail)
    go_wp2
    go_ret
    exact ⟨rfl, (K5.out.drewN _).1⟩
  obtain rfl : qn = 0 := Classical.not_not.1 hq0
  clear hq0
  have HQE := Lib.hid (show (l[jo]'hjo).queue = [] from List.eq_nil_of_length_eq_zero (by have := HQN.out; omega))
  cases rr
  · clear d1 d2 e1 e2
    go_upto_region 9 with fail
    go_quiet (fail)
    go_wp2
    go_ret
    exact ⟨rfl, (K5.out.drewN _).1⟩
  cases rw_
  · clear d1 d2 e1 e2
    go_upto_region 9 with fail
    go_quiet (fail)
    go_wp2
    go_ret
    exact ⟨rfl, (K5.out.drewN _).1⟩
  by_cases hse : ¬ s1' = s2'
  · have hse' : (s1' == s2') = false := by simpa using hse
    clear hse
    go_upto_region 9 with fail
    go_quiet (fail)
    go_wp2
    go_ret
    exact ⟨rfl, (K5.out.drewN _).1⟩
  obtain rfl : s1' = s2' := Classical.not_not.1 hse
  clear hse
  by_cases hve : ¬ v1' = v2'
  · have hve' : (v1' == v2') = false := by simpa using hve
    clear hve
    go_upto_region 9 with fail
    go_quiet (fail)
    go_wp2
    go_ret
    exact ⟨rfl, (K5.out.drewN _).1⟩
  obtain rfl : v1' = v2' := Classical.not_not.1 hve
  clear hve
  obtain ⟨lv, hlv⟩ : ∃ lv, liveB l ⟨(jo : Int) + 1, rv, true, true, rk⟩ = lv := ⟨_, rfl⟩
  have HLV := Lib.hid (show tabLive l ⟨(jo : Int) + 1, rv, true, true, rk⟩ = lv by rw [← HR.out, liveB_tab HO.out, HR.out]; exact hlv)
  have HLB := Lib.hid (show liveB l (rOf l ⟨ck, (jr : Int) + 1, (ja : Int), (jb : Int), cn⟩) = lv by rw [HR.out]; exact hlv)
  clear hlv
  have HLD := Lib.hid (fun zz : Wd (Kn Y []) => implTabLive_val' (s := ⟨some ⟨g, 0, none⟩, l.length, c⟩) (r := ⟨(jo : Int) + 1, rv, true, true, rk⟩) HLV.out zz.w (T5.out.stay zz.ok.1) (HF.out.stay (K5.out.stay zz.ok.1).1) hz)
  clear c0 c3 c4
  have qc1 := fun zz : Wd (Kn Y []) => stayCell c1 zz.ok.1
  have qc2 := fun zz : Wd (Kn Y []) => stayCell c2 zz.ok.1
  have qr0 := fun zz : Wd (Kn Y []) => stayCell r0 zz.ok.1
  have qr1 := fun zz : Wd (Kn Y []) => stayCell r1 zz.ok.1
  have qr2 := fun zz : Wd (Kn Y []) => stayCell r2 zz.ok.1
  have qr3 := fun zz : Wd (Kn Y []) => stayCell r3 zz.ok.1
  have qr4 := fun zz : Wd (Kn Y []) => stayCell r4 zz.ok.1
  have qd0 := fun zz : Wd (Kn Y []) => stayCell d0 zz.ok.1
  have qd1 := fun zz : Wd (Kn Y []) => stayCell d1 zz.ok.1
  have qd2 := fun zz : Wd (Kn Y []) => stayCell d2 zz.ok.1
  have qe1 := fun zz : Wd (Kn Y []) => stayCell e1 zz.ok.1
  have qe2 := fun zz : Wd (Kn Y []) => stayCell e2 zz.ok.1
  have qd6 := fun zz : Wd (Kn Y []) => stayCell d6 zz.ok.1
  have ne : Nonempty (Wd (Kn Y [])) := ⟨⟨_, (Kn.refl (w := Y)).drew⟩⟩
  clear c1 c2 r0 r1 r2 r3 r4 d0 d1 d2 e1 e2 d6
  go_upto_region 9 with fail
  refine wp_region_quiet (C := fun y => ∃ zz : Wd (Kn Y []), y = zz.w) (by kernel_rfl) (by kernel_rfl) ⟨⟨_, (Kn.refl (w := Y)).drew⟩, rfl⟩ ?_
  show wpQuiet _ _ _ _ [_, _, _, _, _, _, _, _, _, _, _, _, _, _, _, _, _, _, _, _, _, _, _, _, _, _, _, _, _, _, _, _, _, _, _, _, _, _, _, _, _, _, _, _, _, _, _, _, _, _, _, _, _, _, _, _, _] _
  repeat (first | go_big_quiet_step ((go_at_call 27; with_reducible exact inCls Kn.stay (HLD.out _))) | quiet_step ((go_at_call 27; with_reducible exact inCls Kn.stay (HLD.out _))))
  refine wpQuiet_nil ?_
  rintro y9 ⟨⟨_, K9⟩, rfl⟩
  have K6 := Lib.hid (K5.out.stay K9.1)
  have T6 := Lib.hid (T5.out.stay K9.1)
  clear ne qc1 qc2 qr0 qr1 qr2 qr3 qr4 qd0 qd1 qd2 qe1 qe2 qd6 K9 HLD K5 T5 P5
  cases lv
  · go_wp2
    go_ret
    exact ⟨rfl, K6.out.1⟩
  obtain ⟨n, hn⟩ : ∃ n : Nat, (len1 : Int) % 90 = (n : Int) := ⟨((len1 : Int) % 90).toNat, by omega⟩
  have hn90 : n < 90 := by omega
  have HO1 := Lib.hid (show OkC l ⟨6, (jr : Int) + 1, (ja : Int), 0, (n : Int)⟩ from ok_mk (q := ⟨ck, (jr : Int) + 1, (ja : Int), (jb : Int), cn⟩) HO.out (by decide) (by omega) (by omega))
  have HO2 := Lib.hid (show OkC l ⟨6, (jr : Int) + 1, (ja : Int), 0, (n : Int) + 1⟩ from ok_mk (q := ⟨ck, (jr : Int) + 1, (ja : Int), (jb : Int), cn⟩) HO.out (by decide) (by omega) (by omega))
  have HO3 := Lib.hid (show OkC l ⟨7, (jr : Int) + 1, (ja : Int), 0, 0⟩ from ok_mk (q := ⟨ck, (jr : Int) + 1, (ja : Int), (jb : Int), cn⟩) HO.out (by decide) (by omega) (by omega))
  have HR1 := Lib.hid (show rOf l ⟨6, (jr : Int) + 1, (ja : Int), 0, (n : Int)⟩ = ⟨(jo : Int) + 1, rv, true, true, rk⟩ from (rOf_eq (l := l) (c := ⟨ck, (jr : Int) + 1, (ja : Int), (jb : Int), cn⟩) (d := ⟨6, (jr : Int) + 1, (ja : Int), 0, (n : Int)⟩) rfl rfl).trans HR.out)
  have HST := Lib.hid (send_two HO1.out HO2.out HO3.out HO3.out rfl rfl rfl rfl rfl rfl rfl rfl rfl rfl (jr := jr) (jo := jo) hjr rfl hjo (by rw [HR1.out]) HQE.out HKD.out (by rw [HR1.out]) (by rw [HR1.out]) (HS1.out.trans HS2.out.symm) (HV1.out.trans HV2.out.symm) (by rw [HR1.out, ← HR.out]; exact HLB.out))
  obtain ⟨Xa, Aa, hv⟩ : ∃ X A, callV l ⟨6, (jr : Int) + 1, (ja : Int), 0, (n : Int)⟩ = (X, A) := ⟨_, _, rfl⟩
  have HVa := Lib.hid hv
  have HDa := Lib.hid (show Xa = (doV l ⟨6, (jr : Int) + 1, (ja : Int), 0, (n : Int)⟩).1 ∧ Aa = (doV l ⟨6, (jr : Int) + 1, (ja : Int), 0, (n : Int)⟩).2 by
    rw [callV_ok HO1.out] at hv
    rw [hv]; exact ⟨rfl, rfl⟩)
  have HMa := Lib.hid (call_sm hv)
  clear hv
  have HOa := Lib.hid (show OkC Xa ⟨6, (jr : Int) + 1, (ja : Int), 0, (n : Int) + 1⟩ by rw [HDa.out.1]; exact HO1.out.on HO2.out)
  obtain ⟨Xb, Ab, hv⟩ : ∃ X A, callV Xa ⟨6, (jr : Int) + 1, (ja : Int), 0, (n : Int) + 1⟩ = (X, A) := ⟨_, _, rfl⟩
  have HVb := Lib.hid hv
  have HDb := Lib.hid (show Xb = (doV Xa ⟨6, (jr : Int) + 1, (ja : Int), 0, (n : Int) + 1⟩).1 ∧ Ab = (doV Xa ⟨6, (jr : Int) + 1, (ja : Int), 0, (n : Int) + 1⟩).2 by
    rw [callV_ok HOa.out] at hv
    rw [hv]; exact ⟨rfl, rfl⟩)
  have HMb := Lib.hid (call_sm hv)
  clear hv
  have HOa3 := Lib.hid (show OkC Xa ⟨7, (jr : Int) + 1, (ja : Int), 0, 0⟩ by rw [HDa.out.1]; exact HO1.out.on HO3.out)
  have HOb := Lib.hid (show OkC Xb ⟨7, (jr : Int) + 1, (ja : Int), 0, 0⟩ by rw [HDb.out.1]; exact HOa.out.on HOa3.out)
  obtain ⟨Xc, Ac, hv⟩ : ∃ X A, callV Xb ⟨7, (jr : Int) + 1, (ja : Int), 0, 0⟩ = (X, A) := ⟨_, _, rfl⟩
  have HVc := Lib.hid hv
  have HDc := Lib.hid (show Xc = (doV Xb ⟨7, (jr : Int) + 1, (ja : Int), 0, 0⟩).1 ∧ Ac = (doV Xb ⟨7, (jr : Int) + 1, (ja : Int), 0, 0⟩).2 by
    rw [callV_ok HOb.out] at hv
    rw [hv]; exact ⟨rfl, rfl⟩)
  have HMc := Lib.hid (call_sm hv)
  clear hv
  have HOc := Lib.hid (show OkC Xc ⟨7, (jr : Int) + 1, (ja : Int), 0, 0⟩ by rw [HDc.out.1]; exact HOb.out.on HOb.out)
  obtain ⟨Xd, Ad, hv⟩ : ∃ X A, callV Xc ⟨7, (jr : Int) + 1, (ja : Int), 0, 0⟩ = (X, A) := ⟨_, _, rfl⟩
  have HVd := Lib.hid hv
  have HDd := Lib.hid (show Xd = (doV Xc ⟨7, (jr : Int) + 1, (ja : Int), 0, 0⟩).1 ∧ Ad = (doV Xc ⟨7, (jr : Int) + 1, (ja : Int), 0, 0⟩).2 by
    rw [callV_ok HOc.out] at hv
    rw [hv]; exact ⟨rfl, rfl⟩)
  have HMd := Lib.hid (call_sm hv)
  clear hv
  obtain rfl : Ac = (n : Int) := HDc.out.2.trans (by rw [HDb.out.1, HDa.out.1]; exact HST.out.1)
  obtain rfl : Ad = (n : Int) + 1 := HDd.out.2.trans (by rw [HDc.out.1, HDb.out.1, HDa.out.1]; exact HST.out.2)
  have c1 := K6.out.c (b := y0.heap.size) (T := 25) (vs := C5.cs ⟨ck, (jr : Int) + 1, (ja : Int), (jb : Int), cn⟩) (by simp) 1 _ rfl
  have c2 := K6.out.c (b := y0.heap.size) (T := 25) (vs := C5.cs ⟨ck, (jr : Int) + 1, (ja : Int), (jb : Int), cn⟩) (by simp) 2 _ rfl
  go_wp2_with fail
  refine (implDo_val (s := ⟨some ⟨g, 0, none⟩, l.length, c⟩) (c := ⟨6, (jr : Int) + 1, (ja : Int), 0, (n : Int)⟩) HVa.out _ T6.out (HF.out.stay K6.out.1) (HE.out.stay K6.out.1) hz).mono ?_
  rintro e ya ⟨sa, tsa, rfl, ta, hma, hb⟩
  have Ka := Lib.hid (K6.out.stay hb)
  have Pa := Lib.hid (hma ▸ ta.hasT)
  have HAa := Lib.hid (show 0 < tsa.length → ∃ gg, sa.a = some ⟨gg, 0, none⟩ from fun h => by
    obtain ⟨gg, cur, e, -⟩ := ta.1.form h
    exact ⟨gg, e⟩)
  have HMMa := Lib.hid hma
  clear hb ta hma K6 T6 c1 c2
  obtain ⟨wn, wn2⟩ := wrap90 hn90
  have c1 := Ka.out.c (b := y0.heap.size) (T := 25) (vs := C5.cs ⟨ck, (jr : Int) + 1, (ja : Int), (jb : Int), cn⟩) (by simp) 1 _ rfl
  have c2 := Ka.out.c (b := y0.heap.size) (T := 25) (vs := C5.cs ⟨ck, (jr : Int) + 1, (ja : Int), (jb : Int), cn⟩) (by simp) 2 _ rfl
  go_wp2_with fail
  refine (implDo_val (s := sa) (c := ⟨6, (jr : Int) + 1, (ja : Int), 0, (n : Int) + 1⟩) HVb.out _ Pa.out (HF.out.stay Ka.out.1) (HE.out.stay Ka.out.1) HMa.out.1).mono ?_
  rintro e yb ⟨sb, tsb, rfl, tb, hmb, hb⟩
  have Kb := Lib.hid (Ka.out.stay hb)
  have Pb := Lib.hid (hmb ▸ tb.hasT)
  have HAb := Lib.hid (show 0 < tsb.length → ∃ gg, sb.a = some ⟨gg, 0, none⟩ from fun h => by
    obtain ⟨gg, cur, e, -⟩ := tb.1.form h
    exact ⟨gg, e⟩)
  have HMMb := Lib.hid hmb
  clear hb tb hmb Ka Pa c1 c2
  have c1 := Kb.out.c (b := y0.heap.size) (T := 25) (vs := C5.cs ⟨ck, (jr : Int) + 1, (ja : Int), (jb : Int), cn⟩) (by simp) 1 _ rfl
  have c2 := Kb.out.c (b := y0.heap.size) (T := 25) (vs := C5.cs ⟨ck, (jr : Int) + 1, (ja : Int), (jb : Int), cn⟩) (by simp) 2 _ rfl
  go_wp2_with fail
  refine (implDo_val (s := sb) (c := ⟨7, (jr : Int) + 1, (ja : Int), 0, 0⟩) HVc.out _ Pb.out (HF.out.stay Kb.out.1) (HE.out.stay Kb.out.1) HMb.out.1).mono ?_
  rintro e yc ⟨sc, tsc, rfl, tc, hmc, hb⟩
  have Kc := Lib.hid (Kb.out.stay hb)
  have Pc := Lib.hid (hmc ▸ tc.hasT)
  have HAc := Lib.hid (show 0 < tsc.length → ∃ gg, sc.a = some ⟨gg, 0, none⟩ from fun h => by
    obtain ⟨gg, cur, e, -⟩ := tc.1.form h
    exact ⟨gg, e⟩)
  have HMMc := Lib.hid hmc
  clear hb tc hmc Kb Pb c1 c2
  have c1 := Kc.out.c (b := y0.heap.size) (T := 25) (vs := C5.cs ⟨ck, (jr : Int) + 1, (ja : Int), (jb : Int), cn⟩) (by simp) 1 _ rfl
  have c2 := Kc.out.c (b := y0.heap.size) (T := 25) (vs := C5.cs ⟨ck, (jr : Int) + 1, (ja : Int), (jb : Int), cn⟩) (by simp) 2 _ rfl
  go_wp2_with fail
  refine (implDo_val (s := sc) (c := ⟨7, (jr : Int) + 1, (ja : Int), 0, 0⟩) HVd.out _ Pc.out (HF.out.stay Kc.out.1) (HE.out.stay Kc.out.1) HMc.out.1).mono ?_
  rintro e yd ⟨sd, tsd, rfl, td, hmd, hb⟩
  have Kd := Lib.hid (Kc.out.stay hb)
  have Pd := Lib.hid (hmd ▸ td.hasT)
  have HAd := Lib.hid (show 0 < tsd.length → ∃ gg, sd.a = some ⟨gg, 0, none⟩ from fun h => by
    obtain ⟨gg, cur, e, -⟩ := td.1.form h
    exact ⟨gg, e⟩)
  have HMMd := Lib.hid hmd
  clear hb td hmd Kc Pc c1 c2
  go_wp2
  go_ret
  exact ⟨by simp, Kd.out.1⟩
end Go.Proofs.YtbopficnajdaoaaGreatDoor
