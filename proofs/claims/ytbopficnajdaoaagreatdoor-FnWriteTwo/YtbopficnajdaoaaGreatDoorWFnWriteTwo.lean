/-
  The walk of laws.FnWriteTwo.
-/
import Derived.Test.YtbopficnajdaoaaGreatDoorLdM
namespace Go.Proofs.YtbopficnajdaoaaGreatDoor
open Go.RowKit
set_option maxRecDepth 100000
set_option linter.unusedVariables false

theorem ok_mk {l : List T8} {q : C5} (h : OkC l q) {k b n : Int} (hk : 1 ≤ k ∧ k ≤ 9) (hb : 0 ≤ b ∧ b ≤ 3) (hn : 0 ≤ n ∧ n ≤ 99) : OkC l ⟨k, q.r, q.a, b, n⟩ := by
  refine h.as rfl ?_
  have := C5.bd h.2
  simp only [C5.ok, Bool.and_eq_true]
  simp [inR]
  omega
set_option maxHeartbeats 16000000 in
theorem walk_FnWriteTwo (a0 : Option Addr) (len0 cap0 : Nat) (z0 : List Int) (a1 : Option Addr) (len1 cap1 : Nat) (z1 : List Int) (w : World) (hKF : KF w) (hET : ET w) (w0 : IsRow .u8 w a0 len0 cap0 z0) (w1 : IsRow .u8 w a1 len1 cap1 z1) :
    Calls Tryz.prog 16 #[.slice a0 len0 cap0, .slice a1 len1 cap1] w fun e w' => e = .returned (.bool true) ∧ Below w.heap.size w w' := by
  by_cases g0 : (1048576 : Int) < (len0 : Int)
  · go_enter Tryz.func16, Tryz.ntmps16
    go_wp2
    go_ret
    exact ⟨rfl, Below.refl _ _⟩
  by_cases g1 : (1048576 : Int) < (len1 : Int)
  · go_enter Tryz.func16, Tryz.ntmps16
    go_wp2
    go_ret
    exact ⟨rfl, Below.refl _ _⟩
  have W0 := Lib.hid w0
  have HF := Lib.hid hKF
  have HE := Lib.hid hET
  clear w0 w1 hKF hET
  go_enter Tryz.func16, Tryz.ntmps16
  go_wp2_with fail
  refine (drawCD_any a0 len0 cap0 z0 _ W0.out).mono ?_
  rintro e y0 ⟨g, c, l, q, rfl, hT, l3, l8, hzs, hb⟩
  have K0 := Lib.hid ((Kn.start hb).new 25 (C5.cs q))
  have T0 := Lib.hid (hT.stay ((Below.refl _ _).alloc (Nat.le_refl _) (.cells (C5.cs q) 25)))
  have HZS := Lib.hid hzs
  have hz : l.length ≤ 1048576 := by omega
  clear W0 hb hT hzs
  obtain ⟨x, ans, hv⟩ : ∃ x ans, callV l q = (x, ans) := ⟨_, _, rfl⟩
  have HV := Lib.hid hv
  have HSX := Lib.hid (call_sm hv)
  clear hv
  go_wp2_with fail
  refine (specDo_val (s := ⟨some ⟨g, 0, none⟩, l.length, c⟩) HV.out _ T0.out hz HZS.out).mono ?_
  rintro e y1 ⟨s1, ts1, rfl, t1, hm1, hb⟩
  have K1 := Lib.hid (K0.out.stay hb)
  have T1 := Lib.hid (T0.out.stay hb)
  have X1 := Lib.hid (show HasT y1 s1 x from hm1 ▸ t1.hasT)
  clear hb t1 hm1 K0 T0
  have c0 := K1.out.c (b := y0.heap.size) (T := 25) (vs := C5.cs q) (by simp) 0 _ rfl
  have c1 := K1.out.c (b := y0.heap.size) (T := 25) (vs := C5.cs q) (by simp) 1 _ rfl
  have c2 := K1.out.c (b := y0.heap.size) (T := 25) (vs := C5.cs q) (by simp) 2 _ rfl
  have c3 := K1.out.c (b := y0.heap.size) (T := 25) (vs := C5.cs q) (by simp) 3 _ rfl
  have c4 := K1.out.c (b := y0.heap.size) (T := 25) (vs := C5.cs q) (by simp) 4 _ rfl
  go_wp2_with fail
  refine (implDo_val (s := ⟨some ⟨g, 0, none⟩, l.length, c⟩) HV.out _ T1.out (HF.out.stay K1.out.1) (HE.out.stay K1.out.1) hz).mono ?_
  rintro e y2 ⟨s2, ts2, rfl, t2, hm2, hb⟩
  have K2 := Lib.hid (K1.out.stay hb)
  have T2 := Lib.hid (T1.out.stay hb)
  have X2 := Lib.hid (X1.out.stay hb)
  have P2 := Lib.hid (show HasT y2 s2 x from hm2 ▸ t2.hasT)
  have HA2 := Lib.hid (show 0 < x.length → ∃ gx, s2.a = some ⟨gx, 0, none⟩ from fun h => by
    obtain ⟨gx, cur, e, -⟩ := t2.1.form (by have := congrArg List.length hm2; simp at this; omega)
    exact ⟨gx, e⟩)
  clear hb t2 hm2 K1 T1 X1 c0 c1 c2 c3 c4
  go_wp2_with fail
  refine (ldTable_same x s2 s1 _ P2.out X2.out HSX.out.1 HSX.out.2).mono ?_
  rintro e y3 ⟨rfl, hb⟩
  have K3 := Lib.hid (K2.out.stay hb)
  have T3 := Lib.hid (T2.out.stay hb)
  have X3 := Lib.hid (X2.out.stay hb)
  have P3 := Lib.hid (P2.out.stay hb)
  clear hb K2 T2 X2 P2
  have c0 := K3.out.c (b := y0.heap.size) (T := 25) (vs := C5.cs q) (by simp) 0 _ rfl
  have c1 := K3.out.c (b := y0.heap.size) (T := 25) (vs := C5.cs q) (by simp) 1 _ rfl
  have c2 := K3.out.c (b := y0.heap.size) (T := 25) (vs := C5.cs q) (by simp) 2 _ rfl
  have c3 := K3.out.c (b := y0.heap.size) (T := 25) (vs := C5.cs q) (by simp) 3 _ rfl
  have c4 := K3.out.c (b := y0.heap.size) (T := 25) (vs := C5.cs q) (by simp) 4 _ rfl
  go_wp2_with fail
  refine (ldCan_any l g l.length c q _ T3.out rfl (HF.out.stay K3.out.1) hz).mono ?_
  rintro e y4 ⟨v, rfl, hv, hb⟩
  have HVV := Lib.hid hv
  have K4 := Lib.hid (K3.out.stay hb)
  have T4 := Lib.hid (T3.out.stay hb)
  have X4 := Lib.hid (X3.out.stay hb)
  have P4 := Lib.hid (P3.out.stay hb)
  clear hb hv K3 T3 X3 P3 c0 c1 c2 c3 c4
  cases v
  · go_wp2_with fail
    refine (ldTable_same x s2 s1 _ P4.out X4.out HSX.out.1 HSX.out.2).mono ?_
    rintro e y5 ⟨rfl, hb⟩
    have HB := Lib.hid (K4.out.stay hb).1
    clear hb
    go_wp2
    go_ret
    exact ⟨rfl, HB.out⟩
  have HO := Lib.hid (HVV.out.1 rfl)
  have HXA := Lib.hid (show x = (doV l q).1 ∧ ans = (doV l q).2 by
    have := HV.out
    rw [callV_ok HO.out] at this
    rw [this]; exact ⟨rfl, rfl⟩)
  have hxl : x.length = l.length := by rw [HXA.out.1, do_len]
  obtain ⟨gx, hs2⟩ := HA2.out (by omega)
  have hsn : s2.n = l.length := by rw [P4.out.1, hxl]
  have HXL := Lib.hid hxl
  obtain ⟨s2a, s2n, cx⟩ := s2
  dsimp only at hs2 hsn
  subst hs2 hsn
  obtain ⟨jr, hjr, hcr, hth, hkr⟩ := HO.out.run
  have hbd := C5.bd HO.out.2
  obtain ⟨ck, cr, ca, cbb, cn⟩ := q
  dsimp only at *
  subst hcr
  obtain ⟨ja, rfl⟩ : ∃ ja : Nat, ca = ja := ⟨ca.toNat, by omega⟩
  obtain ⟨jb, rfl⟩ : ∃ jb : Nat, cbb = jb := ⟨cbb.toNat, by omega⟩
  have hja : ja < 4 := by omega
  have hjb : jb < 4 := by omega
  have hjr' : (jr : Int) < (l.length : Int) := by omega
  have hja' : (ja : Int) < 4 := by omega
  have hjb' : (jb : Int) < 4 := by omega
  have wr : wrap64 ((jr : Int) + 1 - 1) = (jr : Int) := by unfold wrap64; omega
  have wr2 : IntKind.i64.wrap (jr : Int) = (jr : Int) := IntWalk.i64_in _ (by omega)
  have HBD := Lib.hid hbd
  have HTH := Lib.hid hth
  have HKR := Lib.hid hkr
  clear hbd hth hkr hxl HA2 HV HVV X4 HZS
  have c0 := K4.out.c (b := y0.heap.size) (T := 25) (vs := C5.cs ⟨ck, (jr : Int) + 1, (ja : Int), (jb : Int), cn⟩) (by simp) 0 _ rfl
  have c1 := K4.out.c (b := y0.heap.size) (T := 25) (vs := C5.cs ⟨ck, (jr : Int) + 1, (ja : Int), (jb : Int), cn⟩) (by simp) 1 _ rfl
  have c2 := K4.out.c (b := y0.heap.size) (T := 25) (vs := C5.cs ⟨ck, (jr : Int) + 1, (ja : Int), (jb : Int), cn⟩) (by simp) 2 _ rfl
  have c3 := K4.out.c (b := y0.heap.size) (T := 25) (vs := C5.cs ⟨ck, (jr : Int) + 1, (ja : Int), (jb : Int), cn⟩) (by simp) 3 _ rfl
  have c4 := K4.out.c (b := y0.heap.size) (T := 25) (vs := C5.cs ⟨ck, (jr : Int) + 1, (ja : Int), (jb : Int), cn⟩) (by simp) 4 _ rfl
  by_cases hk1 : ¬ ck = 2
  · have hk1' : (ck == 2) = false := by simpa using hk1
    have hk1'' : (ck != 2) = true := by simpa using hk1
    clear hk1
    go_wp2
    go_ret
    exact ⟨rfl, K4.out.1⟩
  obtain rfl : ck = 2 := Classical.not_not.1 hk1
  clear hk1
  have HOD := Lib.hid (show OkC l ⟨2, (jr : Int) + 1, (ja : Int), (jb : Int), ((len1 : Int) % 100)⟩ from ok_mk (q := ⟨2, (jr : Int) + 1, (ja : Int), (jb : Int), cn⟩) HO.out (by decide) (by omega) (by omega))
  obtain ⟨X, A, hv⟩ : ∃ X A, callV l ⟨2, (jr : Int) + 1, (ja : Int), (jb : Int), ((len1 : Int) % 100)⟩ = (X, A) := ⟨_, _, rfl⟩
  have HV1 := Lib.hid hv
  have HSM := Lib.hid (call_sm hv)
  have HV2 := Lib.hid (show callV x ⟨2, (jr : Int) + 1, (ja : Int), (jb : Int), ((len1 : Int) % 100)⟩ = (X, A) by
    rw [HXA.out.1, callV_ok (HO.out.on HOD.out), write_two HO.out HOD.out rfl rfl rfl rfl, ← hv, callV_ok HOD.out])
  clear hv
  obtain ⟨Y, hY⟩ : ∃ Y, y4.alloc (.cells (C5.cs ⟨2, (jr : Int) + 1, (ja : Int), (jb : Int), ((len1 : Int) % 100)⟩) 25) = Y := ⟨_, rfl⟩
  have BY := Lib.hid (show Below y4.heap.size y4 Y from hY ▸ (Below.refl _ _).alloc (Nat.le_refl _) _)
  have DB := Lib.hid (show Box Y y4.heap.size 25 (C5.cs ⟨2, (jr : Int) + 1, (ja : Int), (jb : Int), ((len1 : Int) % 100)⟩) from hY ▸ Box.fresh y4 25 (C5.cs ⟨2, (jr : Int) + 1, (ja : Int), (jb : Int), ((len1 : Int) % 100)⟩))
  have K5 := Lib.hid (K4.out.stay BY.out)
  have T5 := Lib.hid (T4.out.stay BY.out)
  have P5 := Lib.hid (P4.out.stay BY.out)
  have hbl := cell_lt c0
  go_upto_region 12 with fail
  try rw [hY]
  clear hY c0 c1 c2 c3 c4 K4 T4 P4
  have d0 := DB.out.cell 0 _ rfl
  have d1 := DB.out.cell 1 _ rfl
  have d2 := DB.out.cell 2 _ rfl
  have d3 := DB.out.cell 3 _ rfl
  have d4 := DB.out.cell 4 _ rfl
  go_wp2_with fail
  refine (implDo_val (s := ⟨some ⟨gx, 0, none⟩, l.length, cx⟩) (c := ⟨2, (jr : Int) + 1, (ja : Int), (jb : Int), ((len1 : Int) % 100)⟩) HV2.out _ P5.out (HF.out.stay K5.out.1) (HE.out.stay K5.out.1) HSX.out.1).mono ?_
  rintro e y6 ⟨s6, ts6, rfl, t6, hm6, hb⟩
  have K6 := Lib.hid (K5.out.stay hb)
  have P6 := Lib.hid (hm6 ▸ t6.hasT)
  have HA6 := Lib.hid (show 0 < ts6.length → ∃ gg, s6.a = some ⟨gg, 0, none⟩ from fun h => by
    obtain ⟨gg, cur, e, -⟩ := t6.1.form h
    exact ⟨gg, e⟩)
  have HMM6 := Lib.hid hm6
  have T6 := Lib.hid (T5.out.stay hb)
  have DB6 := Lib.hid (DB.out.stay hb)
  clear hb t6 hm6 K5 T5 P5 DB d0 d1 d2 d3 d4
  have d0 := DB6.out.cell 0 _ rfl
  have d1 := DB6.out.cell 1 _ rfl
  have d2 := DB6.out.cell 2 _ rfl
  have d3 := DB6.out.cell 3 _ rfl
  have d4 := DB6.out.cell 4 _ rfl
  go_wp2_with fail
  refine (implDo_val (s := ⟨some ⟨g, 0, none⟩, l.length, c⟩) (c := ⟨2, (jr : Int) + 1, (ja : Int), (jb : Int), ((len1 : Int) % 100)⟩) HV1.out _ T6.out (HF.out.stay K6.out.1) (HE.out.stay K6.out.1) hz).mono ?_
  rintro e y7 ⟨s7, ts7, rfl, t7, hm7, hb⟩
  have K7 := Lib.hid (K6.out.stay hb)
  have P7 := Lib.hid (hm7 ▸ t7.hasT)
  have HA7 := Lib.hid (show 0 < ts7.length → ∃ gg, s7.a = some ⟨gg, 0, none⟩ from fun h => by
    obtain ⟨gg, cur, e, -⟩ := t7.1.form h
    exact ⟨gg, e⟩)
  have HMM7 := Lib.hid hm7
  have Z6 := Lib.hid (P6.out.stay hb)
  clear hb t7 hm7 K6 T6 P6 DB6 d0 d1 d2 d3 d4
  go_wp2_with fail
  refine (ldTable_same X s6 s7 _ Z6.out P7.out HSM.out.1 HSM.out.2).mono ?_
  rintro e y8 ⟨rfl, hb⟩
  have HB := Lib.hid (K7.out.stay hb).1
  clear hb
  go_wp2
  go_ret
  exact ⟨rfl, HB.out⟩
end Go.Proofs.YtbopficnajdaoaaGreatDoor
