/-
  The walk of laws.FnDoTwo.
-/
import Derived.Test.YtbopficnajdaoaaGreatDoorLdM
namespace Go.Proofs.YtbopficnajdaoaaGreatDoor
open Go.RowKit
set_option maxRecDepth 100000
set_option linter.unusedVariables false

theorem ok_other {l : List T8} {q : C5} (h : OkC l q) {k : Nat} (hk : k < l.length) (h3 : (l[k]'hk).kind = 3) {a : Int} (ha : 0 ≤ a ∧ a ≤ 3) : OkC l ⟨3, (k : Int) + 1, a, 1, 7⟩ := by
  have h8 := (tab_len h.tab).2
  refine ⟨?_, ?_⟩
  · simp only [Bool.and_eq_true, isRun]
    refine ⟨h.tab, by simp [inR]; omega, ?_⟩
    rw [thAt_of hk (by omega)]; simpa using h3
  · simp only [C5.ok, Bool.and_eq_true]
    simp [inR]; omega
theorem wrapr {k : Nat} (h : k < 9) : wrap64 ((k : Int) + 1 - 1) = (k : Int) ∧ wrap64 ((k : Int) + 1 + 1) = (k : Int) + 1 + 1 ∧ IntKind.i64.wrap (k : Int) = (k : Int) ∧ IntKind.i64.wrap ((k : Int) + 1 + 1) = (k : Int) + 1 + 1 :=
  ⟨by unfold wrap64; omega, by unfold wrap64; omega, IntWalk.i64_in _ (by omega), IntWalk.i64_in _ (by omega)⟩
theorem neqr {k j : Nat} (h : ¬ k = j) : (((k : Int) + 1) == ((j : Int) + 1)) = false ∧ ((k : Int) == (j : Int)) = false := by
  refine ⟨?_, ?_⟩ <;> simp <;> omega
theorem leqr (k n : Nat) : (k < n ↔ ((k : Int) + 1 ≤ (n : Int))) := by omega
theorem ner {k j : Nat} (h : ¬ k = j) : (k : Int) + 1 ≠ (j : Int) + 1 := by omega
theorem kk1 (k : Nat) : Value.int .i64 ((k : Int) + 1 + 1) = Value.int .i64 (((k + 1 : Nat) : Int) + 1) := by
  congr 1
theorem kkm {k n : Nat} (h : k < n) : n + 1 - (intOf (.int .i64 (((k + 1 : Nat) : Int) + 1))).toNat < n + 1 - (intOf (.int .i64 ((k : Int) + 1))).toNat := by
  simp only [intOf]; omega
theorem mod4 (n : Nat) : 0 ≤ (n : Int) % 4 ∧ (n : Int) % 4 ≤ 3 := by omega
set_option maxHeartbeats 16000000 in
theorem walk_FnDoTwo (a0 : Option Addr) (len0 cap0 : Nat) (z0 : List Int) (a1 : Option Addr) (len1 cap1 : Nat) (z1 : List Int) (w : World) (hKF : KF w) (hET : ET w) (w0 : IsRow .u8 w a0 len0 cap0 z0) (w1 : IsRow .u8 w a1 len1 cap1 z1) :
    Calls Tryz.prog 12 #[.slice a0 len0 cap0, .slice a1 len1 cap1] w fun e w' => e = .returned (.bool true) ∧ Below w.heap.size w w' := by
  by_cases g0 : (1048576 : Int) < (len0 : Int)
  · go_enter Tryz.func12, Tryz.ntmps12
    go_wp2
    go_ret
    exact ⟨rfl, Below.refl _ _⟩
  by_cases g1 : (1048576 : Int) < (len1 : Int)
  · go_enter Tryz.func12, Tryz.ntmps12
    go_wp2
    go_ret
    exact ⟨rfl, Below.refl _ _⟩
  have W0 := Lib.hid w0
  have HF := Lib.hid hKF
  have HE := Lib.hid hET
  clear w0 w1 hKF hET
  go_enter Tryz.func12, Tryz.ntmps12
  go_wp2_with fail
  refine (drawCD_any a0 len0 cap0 z0 _ W0.out).mono ?_
  rintro e y0 ⟨g, c, l, q, rfl, hT, l3, l8, hzs, hb⟩
  have K0 := Lib.hid ((Kn.start hb).new 25 (C5.cs q))
  have T0 := Lib.hid (hT.stay ((Below.refl _ _).alloc (Nat.le_refl _) (.cells (C5.cs q) 25)))
  have HZS := Lib.hid hzs
  have hz : l.length ≤ 1048576 := by omega
  clear W0 hb hT hzs
  obtain ⟨x, ans, hv⟩ : ∃ x ans, callV l q = (x, ans) := ⟨_, _, rfl⟩
  have HV := Lib.hid hv
  have HSX := Lib.hid (call_sm hv)
  clear hv
  go_wp2_with fail
  refine (specDo_val (s := ⟨some ⟨g, 0, none⟩, l.length, c⟩) HV.out _ T0.out hz HZS.out).mono ?_
  rintro e y1 ⟨s1, ts1, rfl, t1, hm1, hb⟩
  have K1 := Lib.hid (K0.out.stay hb)
  have T1 := Lib.hid (T0.out.stay hb)
  have X1 := Lib.hid (show HasT y1 s1 x from hm1 ▸ t1.hasT)
  clear hb t1 hm1 K0 T0
  have c0 := K1.out.c (b := y0.heap.size) (T := 25) (vs := C5.cs q) (by simp) 0 _ rfl
  have c1 := K1.out.c (b := y0.heap.size) (T := 25) (vs := C5.cs q) (by simp) 1 _ rfl
  have c2 := K1.out.c (b := y0.heap.size) (T := 25) (vs := C5.cs q) (by simp) 2 _ rfl
  have c3 := K1.out.c (b := y0.heap.size) (T := 25) (vs := C5.cs q) (by simp) 3 _ rfl
  have c4 := K1.out.c (b := y0.heap.size) (T := 25) (vs := C5.cs q) (by simp) 4 _ rfl
  go_wp2_with fail
  refine (implDo_val (s := ⟨some ⟨g, 0, none⟩, l.length, c⟩) HV.out _ T1.out (HF.out.stay K1.out.1) (HE.out.stay K1.out.1) hz).mono ?_
  rintro e y2 ⟨s2, ts2, rfl, t2, hm2, hb⟩
  have K2 := Lib.hid (K1.out.stay hb)
  have T2 := Lib.hid (T1.out.stay hb)
  have X2 := Lib.hid (X1.out.stay hb)
  have P2 := Lib.hid (show HasT y2 s2 x from hm2 ▸ t2.hasT)
  have HA2 := Lib.hid (show 0 < x.length → ∃ gx, s2.a = some ⟨gx, 0, none⟩ from fun h => by
    obtain ⟨gx, cur, e, -⟩ := t2.1.form (by have := congrArg List.length hm2; simp at this; omega)
    exact ⟨gx, e⟩)
  clear hb t2 hm2 K1 T1 X1 c0 c1 c2 c3 c4
  go_wp2_with fail
  refine (ldTable_same x s2 s1 _ P2.out X2.out HSX.out.1 HSX.out.2).mono ?_
  rintro e y3 ⟨rfl, hb⟩
  have K3 := Lib.hid (K2.out.stay hb)
  have T3 := Lib.hid (T2.out.stay hb)
  have X3 := Lib.hid (X2.out.stay hb)
  have P3 := Lib.hid (P2.out.stay hb)
  clear hb K2 T2 X2 P2
  have c0 := K3.out.c (b := y0.heap.size) (T := 25) (vs := C5.cs q) (by simp) 0 _ rfl
  have c1 := K3.out.c (b := y0.heap.size) (T := 25) (vs := C5.cs q) (by simp) 1 _ rfl
  have c2 := K3.out.c (b := y0.heap.size) (T := 25) (vs := C5.cs q) (by simp) 2 _ rfl
  have c3 := K3.out.c (b := y0.heap.size) (T := 25) (vs := C5.cs q) (by simp) 3 _ rfl
  have c4 := K3.out.c (b := y0.heap.size) (T := 25) (vs := C5.cs q) (by simp) 4 _ rfl
  go_wp2_with fail
  refine (ldCan_any l g l.length c q _ T3.out rfl (HF.out.stay K3.out.1) hz).mono ?_
  rintro e y4 ⟨v, rfl, hv, hb⟩
  have HVV := Lib.hid hv
  have K4 := Lib.hid (K3.out.stay hb)
  have T4 := Lib.hid (T3.out.stay hb)
  have X4 := Lib.hid (X3.out.stay hb)
  have P4 := Lib.hid (P3.out.stay hb)
  clear hb hv K3 T3 X3 P3 c0 c1 c2 c3 c4
  cases v
  · go_wp2_with fail
    refine (ldTable_same x s2 s1 _ P4.out X4.out HSX.out.1 HSX.out.2).mono ?_
    rintro e y5 ⟨rfl, hb⟩
    have HB := Lib.hid (K4.out.stay hb).1
    clear hb
    go_wp2
    go_ret
    exact ⟨rfl, HB.out⟩
  have HO := Lib.hid (HVV.out.1 rfl)
  have HXA := Lib.hid (show x = (doV l q).1 ∧ ans = (doV l q).2 by
    have := HV.out
    rw [callV_ok HO.out] at this
    rw [this]; exact ⟨rfl, rfl⟩)
  have hxl : x.length = l.length := by rw [HXA.out.1, do_len]
  obtain ⟨gx, hs2⟩ := HA2.out (by omega)
  have hsn : s2.n = l.length := by rw [P4.out.1, hxl]
  have HXL := Lib.hid hxl
  obtain ⟨s2a, s2n, cx⟩ := s2
  dsimp only at hs2 hsn
  subst hs2 hsn
  obtain ⟨jr, hjr, hcr, hth, hkr⟩ := HO.out.run
  have hbd := C5.bd HO.out.2
  obtain ⟨ck, cr, ca, cbb, cn⟩ := q
  dsimp only at *
  subst hcr
  obtain ⟨ja, rfl⟩ : ∃ ja : Nat, ca = ja := ⟨ca.toNat, by omega⟩
  obtain ⟨jb, rfl⟩ : ∃ jb : Nat, cbb = jb := ⟨cbb.toNat, by omega⟩
  have hja : ja < 4 := by omega
  have hjb : jb < 4 := by omega
  have hjr' : (jr : Int) < (l.length : Int) := by omega
  have hja' : (ja : Int) < 4 := by omega
  have hjb' : (jb : Int) < 4 := by omega
  have wr : wrap64 ((jr : Int) + 1 - 1) = (jr : Int) := by unfold wrap64; omega
  have wr2 : IntKind.i64.wrap (jr : Int) = (jr : Int) := IntWalk.i64_in _ (by omega)
  have HBD := Lib.hid hbd
  have HTH := Lib.hid hth
  have HKR := Lib.hid hkr
  clear hbd hth hkr hxl HA2 HV HVV X4 HZS
  have c0 := K4.out.c (b := y0.heap.size) (T := 25) (vs := C5.cs ⟨ck, (jr : Int) + 1, (ja : Int), (jb : Int), cn⟩) (by simp) 0 _ rfl
  have c1 := K4.out.c (b := y0.heap.size) (T := 25) (vs := C5.cs ⟨ck, (jr : Int) + 1, (ja : Int), (jb : Int), cn⟩) (by simp) 1 _ rfl
  have c2 := K4.out.c (b := y0.heap.size) (T := 25) (vs := C5.cs ⟨ck, (jr : Int) + 1, (ja : Int), (jb : Int), cn⟩) (by simp) 2 _ rfl
  have c3 := K4.out.c (b := y0.heap.size) (T := 25) (vs := C5.cs ⟨ck, (jr : Int) + 1, (ja : Int), (jb : Int), cn⟩) (by simp) 3 _ rfl
  have c4 := K4.out.c (b := y0.heap.size) (T := 25) (vs := C5.cs ⟨ck, (jr : Int) + 1, (ja : Int), (jb : Int), cn⟩) (by simp) 4 _ rfl
  have HBK := Lib.hid (tab_len HO.out.tab).2
  go_wp2
  go_loopw [11] (fun i wr => ∃ k : Nat, k ≤ l.length ∧ i = .int .i64 ((k : Int) + 1) ∧ Below y4.heap.size y4 wr) (fun i _ => l.length + 1 - (intOf i).toNat)
  case atStart => exact ⟨0, by omega, by go_num, Below.refl _ _⟩
  case round =>
    obtain ⟨k, hk, rfl, B0⟩ := hrel
    have HB := Lib.hid B0
    have KK := Lib.hid (K4.out.stay B0)
    have TK := Lib.hid (T4.out.stay B0)
    have PK := Lib.hid (P4.out.stay B0)
    clear B0 c0 c1 c2 c3 c4
    by_cases hlt : ¬ k < l.length
    · have hlt' : ¬ ((k : Int) + 1 ≤ (l.length : Int)) := fun h => hlt ((leqr k l.length).2 h)
      go_wp2
      go_ret
      exact ⟨by simp, KK.out.1⟩
    have hkl : k < l.length := Classical.not_not.1 hlt
    have hlt' := (leqr k l.length).1 hkl
    have hlt2 : (k : Int) < (l.length : Int) := by omega
    obtain ⟨wk, wk2, wk3, wk4⟩ := wrapr (k := k) (by have := HBK.out; omega)
    clear hlt
    have c1 := KK.out.c (b := y0.heap.size) (T := 25) (vs := C5.cs ⟨ck, (jr : Int) + 1, (ja : Int), (jb : Int), cn⟩) (by simp) 1 _ rfl
    obtain ⟨sk, qk, -, -, hAk⟩ := TK.out.cells hkl
    obtain ⟨kd, hkd⟩ : ∃ kd, (l[k]'hkl).kind = kd := ⟨_, rfl⟩
    have d0 : wr.cell? ⟨g, k * 8, none⟩ = some (.int .i64 kd) := by rw [← hkd]; exact hAk 0 _ rfl
    clear hAk
    by_cases hk3 : ¬ kd = 3
    · have hk3' : (kd == 3) = false := by simpa using hk3
      have hk3'' : (kd != 3) = true := by simpa using hk3
      clear hk3
      go_wp2
      go_roundw
      case rel => exact ⟨k + 1, hkl, kk1 k, HB.out⟩
      case measure => exact kkm hkl
    obtain rfl : kd = 3 := Classical.not_not.1 hk3
    clear hk3
    by_cases hkj : k = jr
    · subst hkj
      go_wp2
      go_roundw
      case rel => exact ⟨k + 1, hkl, kk1 k, HB.out⟩
      case measure => exact kkm hkl
    obtain ⟨nk1, nk2⟩ := neqr hkj
    have HOD := Lib.hid (show OkC l ⟨3, (k : Int) + 1, ((len1 : Int) % 4), 1, 7⟩ from ok_other HO.out hkl hkd (mod4 len1))
    have HTW := Lib.hid (do_two HO.out HOD.out rfl (ner hkj))
    have HOX := Lib.hid (show OkC x ⟨3, (k : Int) + 1, ((len1 : Int) % 4), 1, 7⟩ by rw [HXA.out.1]; exact HO.out.on HOD.out)
    clear hkd
    obtain ⟨Xa, Aa, hv⟩ : ∃ X A, callV x ⟨3, (k : Int) + 1, ((len1 : Int) % 4), 1, 7⟩ = (X, A) := ⟨_, _, rfl⟩
    have HVa := Lib.hid hv
    have HDa := Lib.hid (show Xa = (doV x ⟨3, (k : Int) + 1, ((len1 : Int) % 4), 1, 7⟩).1 ∧ Aa = (doV x ⟨3, (k : Int) + 1, ((len1 : Int) % 4), 1, 7⟩).2 by
      rw [callV_ok HOX.out] at hv
      rw [hv]; exact ⟨rfl, rfl⟩)
    have HMa := Lib.hid (call_sm hv)
    clear hv
    obtain ⟨Xb, Ab, hv⟩ : ∃ X A, callV l ⟨3, (k : Int) + 1, ((len1 : Int) % 4), 1, 7⟩ = (X, A) := ⟨_, _, rfl⟩
    have HVb := Lib.hid hv
    have HDb := Lib.hid (show Xb = (doV l ⟨3, (k : Int) + 1, ((len1 : Int) % 4), 1, 7⟩).1 ∧ Ab = (doV l ⟨3, (k : Int) + 1, ((len1 : Int) % 4), 1, 7⟩).2 by
      rw [callV_ok HOD.out] at hv
      rw [hv]; exact ⟨rfl, rfl⟩)
    have HMb := Lib.hid (call_sm hv)
    clear hv
    have HOB := Lib.hid (show OkC Xb ⟨ck, (jr : Int) + 1, (ja : Int), (jb : Int), cn⟩ by rw [HDb.out.1]; exact HTW.out.2)
    have HVe := Lib.hid (show callV Xb ⟨ck, (jr : Int) + 1, (ja : Int), (jb : Int), cn⟩ = (Xa, ans) by
      rw [callV_ok HOB.out, HDb.out.1, HTW.out.1, HDa.out.1, HXA.out.1, ← HXA.out.2])
    obtain ⟨y5, hY⟩ : ∃ Y', wr.alloc (.cells (C5.cs ⟨3, (k : Int) + 1, ((len1 : Int) % 4), 1, 7⟩) 25) = Y' := ⟨_, rfl⟩
    have BY := Lib.hid (show Below wr.heap.size wr y5 from hY ▸ (Below.refl _ _).alloc (Nat.le_refl _) _)
    have DB := Lib.hid (show Box y5 wr.heap.size 25 (C5.cs ⟨3, (k : Int) + 1, ((len1 : Int) % 4), 1, 7⟩) from hY ▸ Box.fresh wr 25 (C5.cs ⟨3, (k : Int) + 1, ((len1 : Int) % 4), 1, 7⟩))
    have K5 := Lib.hid (KK.out.stay BY.out)
    have T5 := Lib.hid (TK.out.stay BY.out)
    have P5 := Lib.hid (PK.out.stay BY.out)
    have BK5 := Lib.hid (Kn.start (HB.out.trans (BY.out.mono HB.out.size)))
    have hbl := cell_lt c1
    go_upto_region 13 with fail
    try rw [hY]
    clear hY c1 d0 KK TK PK HB
    have d0 := DB.out.cell 0 _ rfl
    have d1 := DB.out.cell 1 _ rfl
    have d2 := DB.out.cell 2 _ rfl
    have d3 := DB.out.cell 3 _ rfl
    have d4 := DB.out.cell 4 _ rfl
    go_wp2_with fail
    refine (implDo_val (s := ⟨some ⟨gx, 0, none⟩, l.length, cx⟩) (c := ⟨3, (k : Int) + 1, ((len1 : Int) % 4), 1, 7⟩) HVa.out _ P5.out (HF.out.stay K5.out.1) (HE.out.stay K5.out.1) HSX.out.1).mono ?_
    rintro e y6 ⟨sa, tsa, rfl, ta, hma, hb⟩
    have K6 := Lib.hid (K5.out.stay hb)
    have Pa := Lib.hid (hma ▸ ta.hasT)
    have HAa := Lib.hid (show 0 < tsa.length → ∃ gg, sa.a = some ⟨gg, 0, none⟩ from fun h => by
      obtain ⟨gg, cur, e, -⟩ := ta.1.form h
      exact ⟨gg, e⟩)
    have HMMa := Lib.hid hma
    have T6 := Lib.hid (T5.out.stay hb)
    have DB6 := Lib.hid (DB.out.stay hb)
    have BK6 := Lib.hid (BK5.out.stay hb)
    clear hb ta hma K5 T5 P5 DB d0 d1 d2 d3 d4 BK5
    have d0 := DB6.out.cell 0 _ rfl
    have d1 := DB6.out.cell 1 _ rfl
    have d2 := DB6.out.cell 2 _ rfl
    have d3 := DB6.out.cell 3 _ rfl
    have d4 := DB6.out.cell 4 _ rfl
    go_wp2_with fail
    refine (implDo_val (s := ⟨some ⟨g, 0, none⟩, l.length, c⟩) (c := ⟨3, (k : Int) + 1, ((len1 : Int) % 4), 1, 7⟩) HVb.out _ T6.out (HF.out.stay K6.out.1) (HE.out.stay K6.out.1) hz).mono ?_
    rintro e y7 ⟨sb, tsb, rfl, tb, hmb, hb⟩
    have K7 := Lib.hid (K6.out.stay hb)
    have Pb := Lib.hid (hmb ▸ tb.hasT)
    have HAb := Lib.hid (show 0 < tsb.length → ∃ gg, sb.a = some ⟨gg, 0, none⟩ from fun h => by
      obtain ⟨gg, cur, e, -⟩ := tb.1.form h
      exact ⟨gg, e⟩)
    have HMMb := Lib.hid hmb
    have Pa7 := Lib.hid (Pa.out.stay hb)
    have BK7 := Lib.hid (BK6.out.stay hb)
    clear hb tb hmb K6 T6 DB6 d0 d1 d2 d3 d4 BK6
    have c0 := K7.out.c (b := y0.heap.size) (T := 25) (vs := C5.cs ⟨ck, (jr : Int) + 1, (ja : Int), (jb : Int), cn⟩) (by simp) 0 _ rfl
    have c1 := K7.out.c (b := y0.heap.size) (T := 25) (vs := C5.cs ⟨ck, (jr : Int) + 1, (ja : Int), (jb : Int), cn⟩) (by simp) 1 _ rfl
    have c2 := K7.out.c (b := y0.heap.size) (T := 25) (vs := C5.cs ⟨ck, (jr : Int) + 1, (ja : Int), (jb : Int), cn⟩) (by simp) 2 _ rfl
    have c3 := K7.out.c (b := y0.heap.size) (T := 25) (vs := C5.cs ⟨ck, (jr : Int) + 1, (ja : Int), (jb : Int), cn⟩) (by simp) 3 _ rfl
    have c4 := K7.out.c (b := y0.heap.size) (T := 25) (vs := C5.cs ⟨ck, (jr : Int) + 1, (ja : Int), (jb : Int), cn⟩) (by simp) 4 _ rfl
    go_wp2_with fail
    refine (implDo_val (s := sb) (c := ⟨ck, (jr : Int) + 1, (ja : Int), (jb : Int), cn⟩) HVe.out _ Pb.out (HF.out.stay K7.out.1) (HE.out.stay K7.out.1) HMb.out.1).mono ?_
    rintro e y8 ⟨se, tse, rfl, te, hme, hb⟩
    have K8 := Lib.hid (K7.out.stay hb)
    have Pe := Lib.hid (hme ▸ te.hasT)
    have HAe := Lib.hid (show 0 < tse.length → ∃ gg, se.a = some ⟨gg, 0, none⟩ from fun h => by
      obtain ⟨gg, cur, e, -⟩ := te.1.form h
      exact ⟨gg, e⟩)
    have HMMe := Lib.hid hme
    have Pa8 := Lib.hid (Pa7.out.stay hb)
    have BK8 := Lib.hid (BK7.out.stay hb)
    clear hb te hme K7 Pb c0 c1 c2 c3 c4 BK7
    go_wp2_with fail
    refine (ldTable_same Xa sa se _ Pa8.out Pe.out HMa.out.1 HMa.out.2).mono ?_
    rintro e y9 ⟨rfl, hb⟩
    have HBE := Lib.hid (show Below y4.heap.size y4 y9 from (BK8.out.stay hb).1)
    clear hb
    go_wp2
    go_roundw
    case rel => exact ⟨k + 1, hkl, kk1 k, HBE.out⟩
    case measure => exact kkm hkl
end Go.Proofs.YtbopficnajdaoaaGreatDoor
