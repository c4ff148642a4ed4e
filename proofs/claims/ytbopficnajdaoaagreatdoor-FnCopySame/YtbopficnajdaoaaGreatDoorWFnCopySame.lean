/-
  The walk of laws.FnCopySame.
-/
import Derived.Test.YtbopficnajdaoaaGreatDoorLdM
namespace Go.Proofs.YtbopficnajdaoaaGreatDoor
open Go.RowKit
set_option maxRecDepth 100000
set_option linter.unusedVariables false

theorem ok_mk2 {l : List T8} {q : C5} (h : OkC l q) {k a b n : Int} (hk : 1 ≤ k ∧ k ≤ 9) (ha : 0 ≤ a ∧ a ≤ 3) (hb : 0 ≤ b ∧ b ≤ 3) (hn : 0 ≤ n ∧ n ≤ 99) : OkC l ⟨k, q.r, a, b, n⟩ := by
  refine h.as rfl ?_
  have := C5.bd h.2
  simp only [C5.ok, Bool.and_eq_true]
  simp [inR]
  omega
set_option maxHeartbeats 16000000 in
theorem walk_FnCopySame (a0 : Option Addr) (len0 cap0 : Nat) (z0 : List Int) (a1 : Option Addr) (len1 cap1 : Nat) (z1 : List Int) (w : World) (hKF : KF w) (hET : ET w) (w0 : IsRow .u8 w a0 len0 cap0 z0) (w1 : IsRow .u8 w a1 len1 cap1 z1) :
    Calls Tryz.prog 13 #[.slice a0 len0 cap0, .slice a1 len1 cap1] w fun e w' => e = .returned (.bool true) ∧ Below w.heap.size w w' := by
  by_cases g0 : (1048576 : Int) < (len0 : Int)
  · go_enter Tryz.func13, Tryz.ntmps13
    go_wp2
    go_ret
    exact ⟨rfl, Below.refl _ _⟩
  by_cases g1 : (1048576 : Int) < (len1 : Int)
  · go_enter Tryz.func13, Tryz.ntmps13
    go_wp2
    go_ret
    exact ⟨rfl, Below.refl _ _⟩
  have W0 := Lib.hid w0
  have HF := Lib.hid hKF
  have HE := Lib.hid hET
  clear w0 w1 hKF hET
  go_enter Tryz.func13, Tryz.ntmps13
  go_wp2_with fail
  refine (drawCD_any a0 len0 cap0 z0 _ W0.out).mono ?_
  rintro e y0 ⟨g, c, l, q, rfl, hT, l3, l8, hzs, hb⟩
  have K0 := Lib.hid ((Kn.start hb).new 25 (C5.cs q))
  have T0 := Lib.hid (hT.stay ((Below.refl _ _).alloc (Nat.le_refl _) (.cells (C5.cs q) 25)))
  have HZS := Lib.hid hzs
  have hz : l.length ≤ 1048576 := by omega
  clear W0 hb hT hzs
  obtain ⟨x, ans, hv⟩ : ∃ x ans, callV l q = (x, ans) := ⟨_, _, rfl⟩
  have HV := Lib.hid hv
  have HSX := Lib.hid (call_sm hv)
  clear hv
  go_wp2_with fail
  refine (specDo_val (s := ⟨some ⟨g, 0, none⟩, l.length, c⟩) HV.out _ T0.out hz HZS.out).mono ?_
  rintro e y1 ⟨s1, ts1, rfl, t1, hm1, hb⟩
  have K1 := Lib.hid (K0.out.stay hb)
  have T1 := Lib.hid (T0.out.stay hb)
  have X1 := Lib.hid (show HasT y1 s1 x from hm1 ▸ t1.hasT)
  clear hb t1 hm1 K0 T0
  have c0 := K1.out.c (b := y0.heap.size) (T := 25) (vs := C5.cs q) (by simp) 0 _ rfl
  have c1 := K1.out.c (b := y0.heap.size) (T := 25) (vs := C5.cs q) (by simp) 1 _ rfl
  have c2 := K1.out.c (b := y0.heap.size) (T := 25) (vs := C5.cs q) (by simp) 2 _ rfl
  have c3 := K1.out.c (b := y0.heap.size) (T := 25) (vs := C5.cs q) (by simp) 3 _ rfl
  have c4 := K1.out.c (b := y0.heap.size) (T := 25) (vs := C5.cs q) (by simp) 4 _ rfl
  go_wp2_with fail
  refine (implDo_val (s := ⟨some ⟨g, 0, none⟩, l.length, c⟩) HV.out _ T1.out (HF.out.stay K1.out.1) (HE.out.stay K1.out.1) hz).mono ?_
  rintro e y2 ⟨s2, ts2, rfl, t2, hm2, hb⟩
  have K2 := Lib.hid (K1.out.stay hb)
  have T2 := Lib.hid (T1.out.stay hb)
  have X2 := Lib.hid (X1.out.stay hb)
  have P2 := Lib.hid (show HasT y2 s2 x from hm2 ▸ t2.hasT)
  have HA2 := Lib.hid (show 0 < x.length → ∃ gx, s2.a = some ⟨gx, 0, none⟩ from fun h => by
    obtain ⟨gx, cur, e, -⟩ := t2.1.form (by have := congrArg List.length hm2; simp at this; omega)
    exact ⟨gx, e⟩)
  clear hb t2 hm2 K1 T1 X1 c0 c1 c2 c3 c4
  go_wp2_with fail
  refine (ldTable_same x s2 s1 _ P2.out X2.out HSX.out.1 HSX.out.2).mono ?_
  rintro e y3 ⟨rfl, hb⟩
  have K3 := Lib.hid (K2.out.stay hb)
  have T3 := Lib.hid (T2.out.stay hb)
  have X3 := Lib.hid (X2.out.stay hb)
  have P3 := Lib.hid (P2.out.stay hb)
  clear hb K2 T2 X2 P2
  have c0 := K3.out.c (b := y0.heap.size) (T := 25) (vs := C5.cs q) (by simp) 0 _ rfl
  have c1 := K3.out.c (b := y0.heap.size) (T := 25) (vs := C5.cs q) (by simp) 1 _ rfl
  have c2 := K3.out.c (b := y0.heap.size) (T := 25) (vs := C5.cs q) (by simp) 2 _ rfl
  have c3 := K3.out.c (b := y0.heap.size) (T := 25) (vs := C5.cs q) (by simp) 3 _ rfl
  have c4 := K3.out.c (b := y0.heap.size) (T := 25) (vs := C5.cs q) (by simp) 4 _ rfl
  go_wp2_with fail
  refine (ldCan_any l g l.length c q _ T3.out rfl (HF.out.stay K3.out.1) hz).mono ?_
  rintro e y4 ⟨v, rfl, hv, hb⟩
  have HVV := Lib.hid hv
  have K4 := Lib.hid (K3.out.stay hb)
  have T4 := Lib.hid (T3.out.stay hb)
  have X4 := Lib.hid (X3.out.stay hb)
  have P4 := Lib.hid (P3.out.stay hb)
  clear hb hv K3 T3 X3 P3 c0 c1 c2 c3 c4
  cases v
  · go_wp2_with fail
    refine (ldTable_same x s2 s1 _ P4.out X4.out HSX.out.1 HSX.out.2).mono ?_
    rintro e y5 ⟨rfl, hb⟩
    have HB := Lib.hid (K4.out.stay hb).1
    clear hb
    go_wp2
    go_ret
    exact ⟨rfl, HB.out⟩
  have HO := Lib.hid (HVV.out.1 rfl)
  have HXA := Lib.hid (show x = (doV l q).1 ∧ ans = (doV l q).2 by
    have := HV.out
    rw [callV_ok HO.out] at this
    rw [this]; exact ⟨rfl, rfl⟩)
  have hxl : x.length = l.length := by rw [HXA.out.1, do_len]
  obtain ⟨gx, hs2⟩ := HA2.out (by omega)
  have hsn : s2.n = l.length := by rw [P4.out.1, hxl]
  have HXL := Lib.hid hxl
  obtain ⟨s2a, s2n, cx⟩ := s2
  dsimp only at hs2 hsn
  subst hs2 hsn
  obtain ⟨jr, hjr, hcr, hth, hkr⟩ := HO.out.run
  have hbd := C5.bd HO.out.2
  obtain ⟨ck, cr, ca, cbb, cn⟩ := q
  dsimp only at *
  subst hcr
  obtain ⟨ja, rfl⟩ : ∃ ja : Nat, ca = ja := ⟨ca.toNat, by omega⟩
  obtain ⟨jb, rfl⟩ : ∃ jb : Nat, cbb = jb := ⟨cbb.toNat, by omega⟩
  have hja : ja < 4 := by omega
  have hjb : jb < 4 := by omega
  have hjr' : (jr : Int) < (l.length : Int) := by omega
  have hja' : (ja : Int) < 4 := by omega
  have hjb' : (jb : Int) < 4 := by omega
  have wr : wrap64 ((jr : Int) + 1 - 1) = (jr : Int) := by unfold wrap64; omega
  have wr2 : IntKind.i64.wrap (jr : Int) = (jr : Int) := IntWalk.i64_in _ (by omega)
  have HBD := Lib.hid hbd
  have HTH := Lib.hid hth
  have HKR := Lib.hid hkr
  clear hbd hth hkr hxl HA2 HV HVV X4 HZS
  have c0 := K4.out.c (b := y0.heap.size) (T := 25) (vs := C5.cs ⟨ck, (jr : Int) + 1, (ja : Int), (jb : Int), cn⟩) (by simp) 0 _ rfl
  have c1 := K4.out.c (b := y0.heap.size) (T := 25) (vs := C5.cs ⟨ck, (jr : Int) + 1, (ja : Int), (jb : Int), cn⟩) (by simp) 1 _ rfl
  have c2 := K4.out.c (b := y0.heap.size) (T := 25) (vs := C5.cs ⟨ck, (jr : Int) + 1, (ja : Int), (jb : Int), cn⟩) (by simp) 2 _ rfl
  have c3 := K4.out.c (b := y0.heap.size) (T := 25) (vs := C5.cs ⟨ck, (jr : Int) + 1, (ja : Int), (jb : Int), cn⟩) (by simp) 3 _ rfl
  have c4 := K4.out.c (b := y0.heap.size) (T := 25) (vs := C5.cs ⟨ck, (jr : Int) + 1, (ja : Int), (jb : Int), cn⟩) (by simp) 4 _ rfl
  obtain ⟨jn, hjn⟩ : ∃ jn : Nat, (len1 : Int) % 4 = (jn : Int) := ⟨((len1 : Int) % 4).toNat, by omega⟩
  have hjn4 : jn < 4 := by omega
  have hjn4' : (jn : Int) < 4 := by omega
  have wjn : IntKind.i64.wrap (jn : Int) = (jn : Int) := IntWalk.i64_in _ (by omega)
  have HO7 := Lib.hid (show OkC l ⟨3, (jr : Int) + 1, (jn : Int), 2, 7⟩ from ok_mk2 (q := ⟨ck, (jr : Int) + 1, (ja : Int), (jb : Int), cn⟩) HO.out (by decide) (by omega) (by decide) (by decide))
  have HO0 := Lib.hid (show OkC l ⟨3, (jr : Int) + 1, (jn : Int), 2, 0⟩ from ok_mk2 (q := ⟨ck, (jr : Int) + 1, (ja : Int), (jb : Int), cn⟩) HO.out (by decide) (by omega) (by decide) (by decide))
  have HR4 := Lib.hid (run4 HO.out hjr rfl)
  obtain ⟨m, hm⟩ : ∃ m, (l[jr]'hjr).slots[jn]'(by rw [HR4.out]; exact hjn4) = m := ⟨_, rfl⟩
  have HM := Lib.hid hm
  have HMO := Lib.hid (show m.ok = true by
    have := okT_right (tab_okT HO.out.tab hjr) (j := jn) (by rw [HR4.out]; exact hjn4)
    rw [hm] at this; exact this)
  have HRF := Lib.hid (show ∀ b n, rOf l ⟨3, (jr : Int) + 1, (jn : Int), b, n⟩ = m from fun b n => by
    unfold rOf
    dsimp only
    rw [thAt_of hjr (by omega), slotAt_of (j := jn) (by rw [HR4.out]; exact hjn4) rfl, hm])
  have hc7 := do_copy HO7.out rfl hjr rfl
  have hc0 := do_copy HO0.out rfl hjr rfl
  rw [HRF.out] at hc7 hc0
  have HC7 := Lib.hid (show (doV l ⟨3, (jr : Int) + 1, (jn : Int), 2, 7⟩).2 = 0 ∧ (doV l ⟨3, (jr : Int) + 1, (jn : Int), 2, 7⟩).1[jr]'(by rw [do_len]; exact hjr) = { l[jr]'hjr with num := 0, slots := (l[jr]'hjr).slots.set 2 m } from ⟨hc7.1, hc7.2.trans (by dsimp only; rw [show mk1 7 = true by decide, show mk2 7 = true by decide, show mk4 7 = true by decide, less_all HMO.out]; try rfl)⟩)
  obtain ⟨nn, hnn⟩ : ∃ nn, lessR m false false false = nn := ⟨_, rfl⟩
  have HC0 := Lib.hid (show (doV l ⟨3, (jr : Int) + 1, (jn : Int), 2, 0⟩).2 = 0 ∧ (doV l ⟨3, (jr : Int) + 1, (jn : Int), 2, 0⟩).1[jr]'(by rw [do_len]; exact hjr) = { l[jr]'hjr with num := 0, slots := (l[jr]'hjr).slots.set 2 nn } from ⟨hc0.1, hc0.2.trans (by dsimp only; rw [show mk1 0 = false by decide, show mk2 0 = false by decide, show mk4 0 = false by decide, hnn]; try rfl)⟩)
  have HN := Lib.hid (show nn.r = false ∧ nn.w = false ∧ (nn.t = 0 ∨ nn.k = true) by rw [← hnn]; exact less_none HMO.out)
  clear hm hc7 hc0 hnn
  obtain ⟨X7, A7, hv⟩ : ∃ X A, callV l ⟨3, (jr : Int) + 1, (jn : Int), 2, 7⟩ = (X, A) := ⟨_, _, rfl⟩
  have HV7 := Lib.hid hv
  have HD7 := Lib.hid (show X7 = (doV l ⟨3, (jr : Int) + 1, (jn : Int), 2, 7⟩).1 ∧ A7 = (doV l ⟨3, (jr : Int) + 1, (jn : Int), 2, 7⟩).2 by
    rw [callV_ok HO7.out] at hv
    rw [hv]; exact ⟨rfl, rfl⟩)
  have HM7 := Lib.hid (call_sm hv)
  clear hv
  obtain ⟨X0, A0, hv⟩ : ∃ X A, callV l ⟨3, (jr : Int) + 1, (jn : Int), 2, 0⟩ = (X, A) := ⟨_, _, rfl⟩
  have HV0 := Lib.hid hv
  have HD0 := Lib.hid (show X0 = (doV l ⟨3, (jr : Int) + 1, (jn : Int), 2, 0⟩).1 ∧ A0 = (doV l ⟨3, (jr : Int) + 1, (jn : Int), 2, 0⟩).2 by
    rw [callV_ok HO0.out] at hv
    rw [hv]; exact ⟨rfl, rfl⟩)
  have HM0 := Lib.hid (call_sm hv)
  clear hv
  obtain rfl : A7 = 0 := HD7.out.2.trans HC7.out.1
  obtain rfl : A0 = 0 := HD0.out.2.trans HC0.out.1
  have hl7 : X7.length = l.length := by rw [HD7.out.1, do_len]
  have hl0 : X0.length = l.length := by rw [HD0.out.1, do_len]
  have HL7 := Lib.hid hl7
  have HL0 := Lib.hid hl0
  have HX7 := Lib.hid (show X7[jr]'(by rw [HL7.out]; exact hjr) = { l[jr]'hjr with num := 0, slots := (l[jr]'hjr).slots.set 2 m } by rw [get_of HD7.out.1 (i := jr) (by rw [HL7.out]; exact hjr)]; exact HC7.out.2)
  have HX0 := Lib.hid (show X0[jr]'(by rw [HL0.out]; exact hjr) = { l[jr]'hjr with num := 0, slots := (l[jr]'hjr).slots.set 2 nn } by rw [get_of HD0.out.1 (i := jr) (by rw [HL0.out]; exact hjr)]; exact HC0.out.2)
  have HS7 := Lib.hid (show (X7[jr]'(by rw [HL7.out]; exact hjr)).slots.length = 4 by rw [HX7.out, List.length_set]; exact HR4.out)
  have HS0 := Lib.hid (show (X0[jr]'(by rw [HL0.out]; exact hjr)).slots.length = 4 by rw [HX0.out, List.length_set]; exact HR4.out)
  have HE7 := Lib.hid (show (X7[jr]'(by rw [HL7.out]; exact hjr)).slots[2]'(by rw [HS7.out]; decide) = m by simp only [HX7.out, List.getElem_set_self])
  have HE0 := Lib.hid (show (X0[jr]'(by rw [HL0.out]; exact hjr)).slots[2]'(by rw [HS0.out]; decide) = nn by simp only [HX0.out, List.getElem_set_self])
  clear hl7 hl0
  obtain ⟨mt, mv, mr, mw, mk⟩ := m
  obtain ⟨nt, nv, nr, nw, nk⟩ := nn
  clear c0 c2 c3 c4
  have hbl3 := cell_lt c1
  obtain ⟨rbm, rom, scm, fsm, hBm⟩ := slot_get T4.out hjr HR4.out hjn4
  rw [HM.out] at hBm
  have bm0 : y4.cell? ⟨rbm, rom + jn * 5, none⟩ = some (.int .i64 mt) := hBm 0 _ rfl
  have bm1 : y4.cell? ⟨rbm, rom + jn * 5 + 1, none⟩ = some (.int .i64 mv) := hBm 1 _ rfl
  have bm2 : y4.cell? ⟨rbm, rom + jn * 5 + 2, none⟩ = some (.bool mr) := hBm 2 _ rfl
  have bm3 : y4.cell? ⟨rbm, rom + jn * 5 + 3, none⟩ = some (.bool mw) := hBm 3 _ rfl
  have bm4 : y4.cell? ⟨rbm, rom + jn * 5 + 4, none⟩ = some (.bool mk) := hBm 4 _ rfl
  have lm1 := cell_lt fsm
  have lm2 := cell_lt bm0
  clear hBm
  obtain ⟨y5, hYm⟩ : ∃ Y', (y4.alloc (.cells (R5.cs ⟨mt, mv, mr, mw, mk⟩) 34)) = Y' := ⟨_, rfl⟩
  go_upto_region 10 with fail
  try rw [hYm]
  have Nm := Lib.hid (show Box y5 y4.heap.size 34 (R5.cs ⟨mt, mv, mr, mw, mk⟩) from hYm ▸ (Box.fresh y4 34 (R5.cs ⟨mt, mv, mr, mw, mk⟩)))
  have Bm := Lib.hid (show Below y4.heap.size y4 y5 from hYm ▸ ((Below.refl _ _).alloc (Nat.le_refl _) _))
  clear hYm fsm bm0 bm1 bm2 bm3 bm4
  have K5 := Lib.hid (K4.out.stay Bm.out)
  have T5 := Lib.hid (T4.out.stay Bm.out)
  clear c1 K4 T4 P4
  have c1 := K5.out.c (b := y0.heap.size) (T := 25) (vs := C5.cs ⟨ck, (jr : Int) + 1, (ja : Int), (jb : Int), cn⟩) (by simp) 1 _ rfl
  go_wp2_with fail
  refine (implDo_val (s := ⟨some ⟨g, 0, none⟩, l.length, c⟩) (c := ⟨3, (jr : Int) + 1, (jn : Int), 2, 7⟩) HV7.out _ T5.out (HF.out.stay K5.out.1) (HE.out.stay K5.out.1) hz).mono ?_
  rintro e y6 ⟨s7, ts7, rfl, t7, hm7, hb⟩
  have K6 := Lib.hid (K5.out.stay hb)
  have P7 := Lib.hid (hm7 ▸ t7.hasT)
  have HA7 := Lib.hid (show 0 < ts7.length → ∃ gg, s7.a = some ⟨gg, 0, none⟩ from fun h => by
    obtain ⟨gg, cur, e, -⟩ := t7.1.form h
    exact ⟨gg, e⟩)
  have HMM7 := Lib.hid hm7
  have T6 := Lib.hid (T5.out.stay hb)
  have Nm6 := Lib.hid (Nm.out.stay hb)
  clear hb t7 hm7 K5 T5 Nm c1
  have c1 := K6.out.c (b := y0.heap.size) (T := 25) (vs := C5.cs ⟨ck, (jr : Int) + 1, (ja : Int), (jb : Int), cn⟩) (by simp) 1 _ rfl
  go_wp2_with fail
  refine (implDo_val (s := ⟨some ⟨g, 0, none⟩, l.length, c⟩) (c := ⟨3, (jr : Int) + 1, (jn : Int), 2, 0⟩) HV0.out _ T6.out (HF.out.stay K6.out.1) (HE.out.stay K6.out.1) hz).mono ?_
  rintro e y7 ⟨s0, ts0, rfl, t0, hm0, hb⟩
  have K7 := Lib.hid (K6.out.stay hb)
  have P0 := Lib.hid (hm0 ▸ t0.hasT)
  have HA0 := Lib.hid (show 0 < ts0.length → ∃ gg, s0.a = some ⟨gg, 0, none⟩ from fun h => by
    obtain ⟨gg, cur, e, -⟩ := t0.1.form h
    exact ⟨gg, e⟩)
  have HMM0 := Lib.hid hm0
  have P77 := Lib.hid (P7.out.stay hb)
  have Nm7 := Lib.hid (Nm6.out.stay hb)
  clear hb t0 hm0 K6 T6 Nm6 P7 c1
  obtain ⟨g7, hs7⟩ := HA7.out (by have h1 := congrArg List.length HMM7.out; rw [List.length_map] at h1; have h2 := HL7.out; omega)
  have hsn7 : s7.n = l.length := by rw [P77.out.1, HL7.out]
  obtain ⟨s7a, s7n, k7⟩ := s7
  dsimp only at hs7 hsn7
  subst hs7 hsn7
  obtain ⟨g0x, hs0⟩ := HA0.out (by have h1 := congrArg List.length HMM0.out; rw [List.length_map] at h1; have h2 := HL0.out; omega)
  have hsn0 : s0.n = l.length := by rw [P0.out.1, HL0.out]
  obtain ⟨s0a, s0n, k0⟩ := s0
  dsimp only at hs0 hsn0
  subst hs0 hsn0
  have c1 := K7.out.c (b := y0.heap.size) (T := 25) (vs := C5.cs ⟨ck, (jr : Int) + 1, (ja : Int), (jb : Int), cn⟩) (by simp) 1 _ rfl
  have hbl4 := cell_lt c1
  obtain ⟨rbn, ron, scn, fsn, hBn⟩ := slot_get P0.out (by rw [HL0.out]; exact hjr) HS0.out (show (2 : Nat) < 4 by decide)
  rw [HE0.out] at hBn
  have bn0 : y7.cell? ⟨rbn, ron + 2 * 5, none⟩ = some (.int .i64 nt) := hBn 0 _ rfl
  have bn1 : y7.cell? ⟨rbn, ron + 2 * 5 + 1, none⟩ = some (.int .i64 nv) := hBn 1 _ rfl
  have bn2 : y7.cell? ⟨rbn, ron + 2 * 5 + 2, none⟩ = some (.bool nr) := hBn 2 _ rfl
  have bn3 : y7.cell? ⟨rbn, ron + 2 * 5 + 3, none⟩ = some (.bool nw) := hBn 3 _ rfl
  have bn4 : y7.cell? ⟨rbn, ron + 2 * 5 + 4, none⟩ = some (.bool nk) := hBn 4 _ rfl
  have ln1 := cell_lt fsn
  have ln2 := cell_lt bn0
  clear hBn
  obtain ⟨y8, hYn⟩ : ∃ Y', (y7.alloc (.cells (R5.cs ⟨nt, nv, nr, nw, nk⟩) 34)) = Y' := ⟨_, rfl⟩
  go_upto_region 13 with fail
  try rw [hYn]
  have Nn := Lib.hid (show Box y8 y7.heap.size 34 (R5.cs ⟨nt, nv, nr, nw, nk⟩) from hYn ▸ (Box.fresh y7 34 (R5.cs ⟨nt, nv, nr, nw, nk⟩)))
  have Bn := Lib.hid (show Below y7.heap.size y7 y8 from hYn ▸ ((Below.refl _ _).alloc (Nat.le_refl _) _))
  clear hYn fsn bn0 bn1 bn2 bn3 bn4
  have K8 := Lib.hid (K7.out.stay Bn.out)
  have P78 := Lib.hid (P77.out.stay Bn.out)
  have Nm8 := Lib.hid (Nm7.out.stay Bn.out)
  clear c1 K7 P77 P0 Nm7
  have c1 := K8.out.c (b := y0.heap.size) (T := 25) (vs := C5.cs ⟨ck, (jr : Int) + 1, (ja : Int), (jb : Int), cn⟩) (by simp) 1 _ rfl
  obtain ⟨rbx, rox, scx, fsx, hBx⟩ := slot_get P78.out (by rw [HL7.out]; exact hjr) HS7.out (show (2 : Nat) < 4 by decide)
  rw [HE7.out] at hBx
  have bx0 : y8.cell? ⟨rbx, rox + 2 * 5, none⟩ = some (.int .i64 mt) := hBx 0 _ rfl
  have bx1 : y8.cell? ⟨rbx, rox + 2 * 5 + 1, none⟩ = some (.int .i64 mv) := hBx 1 _ rfl
  have bx2 : y8.cell? ⟨rbx, rox + 2 * 5 + 2, none⟩ = some (.bool mr) := hBx 2 _ rfl
  have bx3 : y8.cell? ⟨rbx, rox + 2 * 5 + 3, none⟩ = some (.bool mw) := hBx 3 _ rfl
  have bx4 : y8.cell? ⟨rbx, rox + 2 * 5 + 4, none⟩ = some (.bool mk) := hBx 4 _ rfl
  clear hBx
  have m0 := Nm8.out.cell 0 _ rfl
  have m1 := Nm8.out.cell 1 _ rfl
  have m2 := Nm8.out.cell 2 _ rfl
  have m3 := Nm8.out.cell 3 _ rfl
  have m4 := Nm8.out.cell 4 _ rfl
  have n0 := Nn.out.cell 0 _ rfl
  have n1 := Nn.out.cell 1 _ rfl
  have n2 := Nn.out.cell 2 _ rfl
  have n3 := Nn.out.cell 3 _ rfl
  have n4 := Nn.out.cell 4 _ rfl
  obtain ⟨e1, e2, e3⟩ := HN.out
  try dsimp only at e1 e2 e3
  subst e1 e2
  rcases e3 with rfl | rfl
  · go_upto_region 13 with fail
    go_quiet (fail)
    go_wp2
    go_ret
    exact ⟨by simp [*], (K8.out.drewN _).1⟩
  · by_cases hz0 : nt = 0
    · subst hz0
      go_upto_region 13 with fail
      go_quiet (fail)
      go_wp2
      go_ret
      exact ⟨by simp [*], (K8.out.drewN _).1⟩
    · have hz1 : (nt == 0) = false := by simpa using hz0
      clear hz0
      go_upto_region 13 with fail
      go_quiet (fail)
      go_wp2
      go_ret
      exact ⟨by simp [*], (K8.out.drewN _).1⟩
end Go.Proofs.YtbopficnajdaoaaGreatDoor
