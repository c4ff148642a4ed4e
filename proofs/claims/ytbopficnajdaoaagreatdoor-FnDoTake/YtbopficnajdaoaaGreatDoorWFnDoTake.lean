/-
  The walk of laws.FnDoTake.
-/
import Derived.Test.YtbopficnajdaoaaGreatDoorLdM
namespace Go.Proofs.YtbopficnajdaoaaGreatDoor
open Go.RowKit
set_option maxRecDepth 100000
set_option linter.unusedVariables false

theorem wk3 {k : Nat} (h : k < 9) : wrap64 ((k : Int) + 1) = (k : Int) + 1 ∧ IntKind.i64.wrap ((k : Int) + 1) = (k : Int) + 1 ∧ IntKind.i64.wrap (k : Int) = (k : Int) ∧ wrap64 ((k : Int) + 1 - 1) = (k : Int) :=
  ⟨by unfold wrap64; omega, IntWalk.i64_in _ (by omega), IntWalk.i64_in _ (by omega), by unfold wrap64; omega⟩
theorem ltn (k n : Nat) : k < n ↔ (k : Int) < (n : Int) := by omega
theorem ltn1 {k n : Nat} (h : k < n) : (k : Int) + 1 < (n : Int) + 1 := by omega
theorem mn {k n : Nat} (h : k < n) : n - (intOf (.int .i64 ((k + 1 : Nat) : Int))).toNat < n - (intOf (.int .i64 (k : Int))).toNat := by
  simp only [intOf]; omega
theorem wkk {k k1 : Nat} (h : k + 1 = k1) (hk : k < 9) : wrap64 ((k : Int) + 1) = (k1 : Int) ∧ IntKind.i64.wrap ((k : Int) + 1) = (k1 : Int) ∧ IntKind.i64.wrap (k : Int) = (k : Int) ∧ IntKind.i64.wrap (k1 : Int) = (k1 : Int) :=
  ⟨by unfold wrap64; omega, by rw [show (k : Int) + 1 = (k1 : Int) by omega]; exact IntWalk.i64_in _ (by omega), IntWalk.i64_in _ (by omega), IntWalk.i64_in _ (by omega)⟩
theorem ltk1 {k k1 m m1 : Nat} (h : k + 1 = k1) (h2 : m + 1 = m1) (hk : k < m) : (k1 : Int) < (m1 : Int) ∧ k1 < m1 := by omega
theorem lek1 {k k1 m : Nat} (h : k + 1 = k1) (hk : k < m) : k1 ≤ m := by omega
theorem mnk {k k1 n : Nat} (e : k + 1 = k1) (h : k < n) : n - (intOf (.int .i64 (k1 : Int))).toNat < n - (intOf (.int .i64 (k : Int))).toNat := by
  simp only [intOf]; omega
theorem m1f {m m1 : Nat} (h : m + 1 = m1) (hb : m1 ≤ 3) : (((m1 : Int)) == 0) = false ∧ (0 : Int) < (m1 : Int) ∧ 0 < m1 ∧ wrap64 ((m1 : Int) - 1) = (m : Int) ∧ IntKind.i64.wrap ((m1 : Int) - 1) = (m : Int) :=
  ⟨by simp; omega, by omega, by omega, by unfold wrap64; omega, by rw [show (m1 : Int) - 1 = (m : Int) by omega]; exact IntWalk.i64_in _ (by omega)⟩
theorem kn1 (k : Nat) : Value.int .i64 ((k : Int) + 1) = Value.int .i64 ((k + 1 : Nat) : Int) := by congr 1
set_option maxHeartbeats 16000000 in
theorem walk_FnDoTake (a0 : Option Addr) (len0 cap0 : Nat) (z0 : List Int) (w : World) (hKF : KF w) (hET : ET w) (w0 : IsRow .u8 w a0 len0 cap0 z0) :
    Calls Tryz.prog 4 #[.slice a0 len0 cap0] w fun e w' => e = .returned (.bool true) ∧ Below w.heap.size w w' := by
  by_cases g0 : (1048576 : Int) < (len0 : Int)
  · go_enter Tryz.func4, Tryz.ntmps4
    go_wp2
    go_ret
    exact ⟨rfl, Below.refl _ _⟩
  have W0 := Lib.hid w0
  have HF := Lib.hid hKF
  have HE := Lib.hid hET
  clear w0 hKF hET
  go_enter Tryz.func4, Tryz.ntmps4
  go_wp2_with fail
  refine (drawCD_any a0 len0 cap0 z0 _ W0.out).mono ?_
  rintro e y0 ⟨g, c, l, q, rfl, hT, l3, l8, hzs, hb⟩
  have K0 := Lib.hid ((Kn.start hb).new 25 (C5.cs q))
  have T0 := Lib.hid (hT.stay ((Below.refl _ _).alloc (Nat.le_refl _) (.cells (C5.cs q) 25)))
  have HZS := Lib.hid hzs
  have hz : l.length ≤ 1048576 := by omega
  clear W0 hb hT hzs
  obtain ⟨x, ans, hv⟩ : ∃ x ans, callV l q = (x, ans) := ⟨_, _, rfl⟩
  have HV := Lib.hid hv
  have HSX := Lib.hid (call_sm hv)
  clear hv
  go_wp2_with fail
  refine (specDo_val (s := ⟨some ⟨g, 0, none⟩, l.length, c⟩) HV.out _ T0.out hz HZS.out).mono ?_
  rintro e y1 ⟨s1, ts1, rfl, t1, hm1, hb⟩
  have K1 := Lib.hid (K0.out.stay hb)
  have T1 := Lib.hid (T0.out.stay hb)
  have X1 := Lib.hid (show HasT y1 s1 x from hm1 ▸ t1.hasT)
  clear hb t1 hm1 K0 T0
  have c0 := K1.out.c (b := y0.heap.size) (T := 25) (vs := C5.cs q) (by simp) 0 _ rfl
  have c1 := K1.out.c (b := y0.heap.size) (T := 25) (vs := C5.cs q) (by simp) 1 _ rfl
  have c2 := K1.out.c (b := y0.heap.size) (T := 25) (vs := C5.cs q) (by simp) 2 _ rfl
  have c3 := K1.out.c (b := y0.heap.size) (T := 25) (vs := C5.cs q) (by simp) 3 _ rfl
  have c4 := K1.out.c (b := y0.heap.size) (T := 25) (vs := C5.cs q) (by simp) 4 _ rfl
  go_wp2_with fail
  refine (implDo_val (s := ⟨some ⟨g, 0, none⟩, l.length, c⟩) HV.out _ T1.out (HF.out.stay K1.out.1) (HE.out.stay K1.out.1) hz).mono ?_
  rintro e y2 ⟨s2, ts2, rfl, t2, hm2, hb⟩
  have K2 := Lib.hid (K1.out.stay hb)
  have T2 := Lib.hid (T1.out.stay hb)
  have X2 := Lib.hid (X1.out.stay hb)
  have P2 := Lib.hid (show HasT y2 s2 x from hm2 ▸ t2.hasT)
  have HA2 := Lib.hid (show 0 < x.length → ∃ gx, s2.a = some ⟨gx, 0, none⟩ from fun h => by
    obtain ⟨gx, cur, e, -⟩ := t2.1.form (by have := congrArg List.length hm2; simp at this; omega)
    exact ⟨gx, e⟩)
  clear hb t2 hm2 K1 T1 X1 c0 c1 c2 c3 c4
  go_wp2_with fail
  refine (ldTable_same x s2 s1 _ P2.out X2.out HSX.out.1 HSX.out.2).mono ?_
  rintro e y3 ⟨rfl, hb⟩
  have K3 := Lib.hid (K2.out.stay hb)
  have T3 := Lib.hid (T2.out.stay hb)
  have X3 := Lib.hid (X2.out.stay hb)
  have P3 := Lib.hid (P2.out.stay hb)
  clear hb K2 T2 X2 P2
  have c0 := K3.out.c (b := y0.heap.size) (T := 25) (vs := C5.cs q) (by simp) 0 _ rfl
  have c1 := K3.out.c (b := y0.heap.size) (T := 25) (vs := C5.cs q) (by simp) 1 _ rfl
  have c2 := K3.out.c (b := y0.heap.size) (T := 25) (vs := C5.cs q) (by simp) 2 _ rfl
  have c3 := K3.out.c (b := y0.heap.size) (T := 25) (vs := C5.cs q) (by simp) 3 _ rfl
  have c4 := K3.out.c (b := y0.heap.size) (T := 25) (vs := C5.cs q) (by simp) 4 _ rfl
  go_wp2_with fail
  refine (ldCan_any l g l.length c q _ T3.out rfl (HF.out.stay K3.out.1) hz).mono ?_
  rintro e y4 ⟨v, rfl, hv, hb⟩
  have HVV := Lib.hid hv
  have K4 := Lib.hid (K3.out.stay hb)
  have T4 := Lib.hid (T3.out.stay hb)
  have X4 := Lib.hid (X3.out.stay hb)
  have P4 := Lib.hid (P3.out.stay hb)
  clear hb hv K3 T3 X3 P3 c0 c1 c2 c3 c4
  cases v
  · go_wp2_with fail
    refine (ldTable_same x s2 s1 _ P4.out X4.out HSX.out.1 HSX.out.2).mono ?_
    rintro e y5 ⟨rfl, hb⟩
    have HB := Lib.hid (K4.out.stay hb).1
    clear hb
    go_wp2
    go_ret
    exact ⟨rfl, HB.out⟩
  have HO := Lib.hid (HVV.out.1 rfl)
  have HXA := Lib.hid (show x = (doV l q).1 ∧ ans = (doV l q).2 by
    have := HV.out
    rw [callV_ok HO.out] at this
    rw [this]; exact ⟨rfl, rfl⟩)
  have hxl : x.length = l.length := by rw [HXA.out.1, do_len]
  obtain ⟨gx, hs2⟩ := HA2.out (by omega)
  have hsn : s2.n = l.length := by rw [P4.out.1, hxl]
  have HXL := Lib.hid hxl
  obtain ⟨s2a, s2n, cx⟩ := s2
  dsimp only at hs2 hsn
  subst hs2 hsn
  obtain ⟨jr, hjr, hcr, hth, hkr⟩ := HO.out.run
  have hbd := C5.bd HO.out.2
  obtain ⟨ck, cr, ca, cbb, cn⟩ := q
  dsimp only at *
  subst hcr
  obtain ⟨ja, rfl⟩ : ∃ ja : Nat, ca = ja := ⟨ca.toNat, by omega⟩
  obtain ⟨jb, rfl⟩ : ∃ jb : Nat, cbb = jb := ⟨cbb.toNat, by omega⟩
  have hja : ja < 4 := by omega
  have hjb : jb < 4 := by omega
  have hjr' : (jr : Int) < (l.length : Int) := by omega
  have hja' : (ja : Int) < 4 := by omega
  have hjb' : (jb : Int) < 4 := by omega
  have wr : wrap64 ((jr : Int) + 1 - 1) = (jr : Int) := by unfold wrap64; omega
  have wr2 : IntKind.i64.wrap (jr : Int) = (jr : Int) := IntWalk.i64_in _ (by omega)
  have HBD := Lib.hid hbd
  have HTH := Lib.hid hth
  have HKR := Lib.hid hkr
  clear hbd hth hkr hxl HA2 HV HVV X4 HZS
  have c0 := K4.out.c (b := y0.heap.size) (T := 25) (vs := C5.cs ⟨ck, (jr : Int) + 1, (ja : Int), (jb : Int), cn⟩) (by simp) 0 _ rfl
  have c1 := K4.out.c (b := y0.heap.size) (T := 25) (vs := C5.cs ⟨ck, (jr : Int) + 1, (ja : Int), (jb : Int), cn⟩) (by simp) 1 _ rfl
  have c2 := K4.out.c (b := y0.heap.size) (T := 25) (vs := C5.cs ⟨ck, (jr : Int) + 1, (ja : Int), (jb : Int), cn⟩) (by simp) 2 _ rfl
  have c3 := K4.out.c (b := y0.heap.size) (T := 25) (vs := C5.cs ⟨ck, (jr : Int) + 1, (ja : Int), (jb : Int), cn⟩) (by simp) 3 _ rfl
  have c4 := K4.out.c (b := y0.heap.size) (T := 25) (vs := C5.cs ⟨ck, (jr : Int) + 1, (ja : Int), (jb : Int), cn⟩) (by simp) 4 _ rfl
  by_cases hk1 : ¬ ck = 7
  · have hk1' : (ck == 7) = false := by simpa using hk1
    have hk1'' : (ck != 7) = true := by simpa using hk1
    clear hk1
    go_wp2
    go_ret
    exact ⟨rfl, K4.out.1⟩
  obtain rfl : ck = 7 := Classical.not_not.1 hk1
  clear hk1
  obtain ⟨v, hv⟩ : ∃ v, chkV l ⟨7, (jr : Int) + 1, (ja : Int), (jb : Int), cn⟩ = v := ⟨_, rfl⟩
  have HCV := Lib.hid hv
  clear hv
  go_wp2_with fail
  refine (implCheck_val (s := ⟨some ⟨g, 0, none⟩, l.length, c⟩) (c := ⟨7, (jr : Int) + 1, (ja : Int), (jb : Int), cn⟩) HCV.out _ T4.out (HF.out.stay K4.out.1) (HE.out.stay K4.out.1) hz).mono ?_
  rintro e y5 ⟨rfl, hb⟩
  have Ka := Lib.hid (K4.out.stay hb)
  have Ta := Lib.hid (T4.out.stay hb)
  have Pa := Lib.hid (P4.out.stay hb)
  clear hb K4 T4 P4 c0 c1 c2 c3 c4
  by_cases hv0 : v < 0
  · clear HXA
    go_wp2
    go_ret
    exact ⟨rfl, Ka.out.1⟩
  have h0 : chkV l ⟨7, (jr : Int) + 1, (ja : Int), (jb : Int), cn⟩ = 0 := by rcases chk_vals HO.out with e | e | e | e <;> rw [HCV.out] at e <;> rw [HCV.out] <;> omega
  obtain ⟨jo, hjo, hro, hnj⟩ := obj_get HO.out h0 (show (7 : Int) ≠ 3 by decide) hjr rfl
  have hjo' : (jo : Int) < (l.length : Int) := by omega
  have wo : wrap64 ((jo : Int) + 1 - 1) = (jo : Int) := by unfold wrap64; omega
  have wo2 : IntKind.i64.wrap (jo : Int) = (jo : Int) := IntWalk.i64_in _ (by omega)
  have HH0 := Lib.hid h0
  have HRO := Lib.hid hro
  have HNJ := Lib.hid hnj
  clear h0 hro hnj
  have c0 := Ka.out.c (b := y0.heap.size) (T := 25) (vs := C5.cs ⟨7, (jr : Int) + 1, (ja : Int), (jb : Int), cn⟩) (by simp) 0 _ rfl
  have c1 := Ka.out.c (b := y0.heap.size) (T := 25) (vs := C5.cs ⟨7, (jr : Int) + 1, (ja : Int), (jb : Int), cn⟩) (by simp) 1 _ rfl
  have c2 := Ka.out.c (b := y0.heap.size) (T := 25) (vs := C5.cs ⟨7, (jr : Int) + 1, (ja : Int), (jb : Int), cn⟩) (by simp) 2 _ rfl
  have c3 := Ka.out.c (b := y0.heap.size) (T := 25) (vs := C5.cs ⟨7, (jr : Int) + 1, (ja : Int), (jb : Int), cn⟩) (by simp) 3 _ rfl
  have c4 := Ka.out.c (b := y0.heap.size) (T := 25) (vs := C5.cs ⟨7, (jr : Int) + 1, (ja : Int), (jb : Int), cn⟩) (by simp) 4 _ rfl
  obtain ⟨jr1, ja1, hjr1, rb, ro, sc, qs, er1, ea1, -, eth1, hA, hB, -⟩ := slot_at Ta.out HO.out.1 HO.out.2
  obtain rfl : jr = jr1 := by dsimp only at er1; omega
  obtain rfl : ja = ja1 := by dsimp only at ea1; omega
  obtain ⟨r, hr⟩ : ∃ r, rOf l ⟨7, (jr : Int) + 1, (ja : Int), (jb : Int), cn⟩ = r := ⟨_, rfl⟩
  have hBr : At y5 rb (ro + ja * 5) r.cs := by rw [← hr]; exact hB
  obtain ⟨rt, rv, rr, rw_, rk⟩ := r
  have HR := Lib.hid hr
  have f5 : y5.cell? ⟨g, jr * 8 + 5, none⟩ = some (.slice (some ⟨rb, ro, none⟩) 4 sc) := hA 5 _ rfl
  have g0' : y5.cell? ⟨rb, ro + ja * 5, none⟩ = some (.int .i64 rt) := hBr 0 _ rfl
  have g1 : y5.cell? ⟨rb, ro + ja * 5 + 1, none⟩ = some (.int .i64 rv) := hBr 1 _ rfl
  have g2 : y5.cell? ⟨rb, ro + ja * 5 + 2, none⟩ = some (.bool rr) := hBr 2 _ rfl
  have g3 : y5.cell? ⟨rb, ro + ja * 5 + 3, none⟩ = some (.bool rw_) := hBr 3 _ rfl
  have g4 : y5.cell? ⟨rb, ro + ja * 5 + 4, none⟩ = some (.bool rk) := hBr 4 _ rfl
  have hbl1 := cell_lt f5
  have hbl2 := cell_lt g0'
  have hbl3 := cell_lt c0
  clear hA hB hBr hr er1 ea1 eth1
  go_upto_region 10 with fail
  go_region
  have K5 := Lib.hid ((Ka.out.new 34 (R5.cs ⟨rt, rv, rr, rw_, rk⟩)).drew)
  have B5 := Lib.hid (((Below.refl y5.heap.size y5).alloc (Nat.le_refl _) (.cells (R5.cs ⟨rt, rv, rr, rw_, rk⟩) 34)).drew)
  have T5 := Lib.hid (Ta.out.stay B5.out)
  have P5 := Lib.hid (Pa.out.stay B5.out)
  obtain ⟨Y, hY⟩ : ∃ Y, (y5.alloc (.cells (R5.cs ⟨rt, rv, rr, rw_, rk⟩) 34)).drew = Y := ⟨_, rfl⟩
  rw [hY] at K5 B5 T5 P5 ⊢
  clear hY Ka Ta Pa f5 g0' g1 g2 g3 g4 c0 c1 c2 c3 c4
  have hrt : rt = (jo : Int) + 1 := by have := HRO.out; rw [HR.out] at this; exact this
  subst hrt
  have HDT := Lib.hid (do_take HO.out rfl HH0.out hjr rfl hjo (by rw [HR.out]))
  have hqb := (okT_queue (tab_okT HO.out.tab hjo)).1
  obtain ⟨so, qo, -, hQo, hAo⟩ := T5.out.cells hjo
  obtain ⟨sx, qx, -, hQx, hAx⟩ := P5.out.cells (i := jo) (by rw [HXL.out]; exact hjo)
  have d6 : Y.cell? ⟨g, jo * 8 + 6, none⟩ = some (.slice qo.a qo.n qo.c) := hAo 6 _ rfl
  have e6 : Y.cell? ⟨gx, jo * 8 + 6, none⟩ = some (.slice qx.a qx.n qx.c) := hAx 6 _ rfl
  rw [show (x[jo]'(by rw [HXL.out]; exact hjo)).queue = (l[jo]'hjo).queue.tail by rw [get_of HXA.out.1 (i := jo) (by rw [HXL.out]; exact hjo), HDT.out.1]] at hQx
  have han : ans = ((l[jo]'hjo).queue.head?).getD (-4) := HXA.out.2.trans HDT.out.2
  obtain ⟨Qu, hQu⟩ : ∃ Qu, (l[jo]'hjo).queue = Qu := ⟨_, rfl⟩
  rw [hQu] at hQo hQx han hqb
  clear hAo hAx hQu HDT
  obtain ⟨qa, qn, qc⟩ := qo
  obtain ⟨xa, xn, xc⟩ := qx
  have hn1 := hQo.len
  have hn2 := hQx.len
  dsimp only at hn1 hn2 d6 e6
  subst hn1 hn2
  have r0 := K5.out.c (b := y5.heap.size) (T := 34) (vs := R5.cs ⟨(jo : Int) + 1, rv, rr, rw_, rk⟩) (by simp) 0 _ rfl
  cases Qu with
  | nil =>
    simp only [List.head?_nil, Option.getD_none] at han
    subst han
    simp only [List.tail_nil, List.length_nil] at d6 e6
    clear hQo hQx hqb
    go_wp2
    go_ret
    exact ⟨by simp [*], K5.out.1⟩
  | cons q qs =>
    simp only [List.head?_cons, Option.getD_some] at han
    subst han
    simp only [List.tail_cons, List.length_cons] at d6 e6 hqb hQx
    obtain ⟨b, o, eb, hq0⟩ := hQo.at (i := 0) (by simp)
    dsimp only at eb
    subst eb
    rw [Nat.add_zero] at hq0
    have hq0 : Y.cell? ⟨b, o, none⟩ = some (.int .i64 ans) := hq0
    have HQ0 := Lib.hid hq0
    have HQO := Lib.hid hQo
    have HQX := Lib.hid hQx
    obtain ⟨m, hm⟩ : ∃ m, qs.length = m := ⟨_, rfl⟩
    rw [hm] at d6 e6 hqb
    have HM := Lib.hid hm
    have HMB := Lib.hid hqb
    obtain ⟨m1, hm1⟩ : ∃ m1, m + 1 = m1 := ⟨_, rfl⟩
    rw [hm1] at d6 hqb
    have HM1 := Lib.hid hm1
    obtain ⟨hmz, hmz2, hmz3, wm1, wm2⟩ := m1f hm1 hqb
    clear hQo hQx hm hqb hq0 hm1
    go_wp2
    go_loopw [12] (fun i wr => ∃ k : Nat, k ≤ m ∧ i = .int .i64 k ∧ Below Y.heap.size Y wr) (fun i _ => m - (intOf i).toNat)
    case atStart => exact ⟨0, Nat.zero_le _, rfl, Below.refl _ _⟩
    case round =>
      obtain ⟨k, hk, rfl, B0⟩ := hrel
      have HB := Lib.hid B0
      have KK := Lib.hid (K5.out.stay B0)
      clear B0
      by_cases hlt : ¬ k < m
      · have hlt' : ¬ (k : Int) < (m : Int) := fun h => hlt ((ltn k m).2 h)
        have q0 := stayCell HQ0.out HB.out
        go_wp2
        go_ret
        exact ⟨by simp [*], KK.out.1⟩
      have hkl : k < m := Classical.not_not.1 hlt
      have hlt' := (ltn k m).1 hkl
      obtain ⟨k1, hk1⟩ : ∃ k1, k + 1 = k1 := ⟨_, rfl⟩
      have HK1 := Lib.hid hk1
      obtain ⟨hlt2, hlt3⟩ := ltk1 hk1 HM1.out hkl
      obtain ⟨wk, wk2, wk4, wk5⟩ := wkk hk1 (Nat.lt_of_lt_of_le hkl (by have h1 := HMB.out; have h2 := HM1.out; omega))
      obtain ⟨b2, o2, eb2, hx0⟩ := HQX.out.at (i := k) (by rw [HM.out]; exact hkl)
      obtain ⟨b3, o3, eb3, ho0⟩ := HQO.out.at (i := k + 1) (by simp only [List.length_cons, HM.out]; exact Nat.succ_lt_succ hkl)
      dsimp only at eb2 eb3
      subst eb2
      obtain ⟨rfl, rfl⟩ : b = b3 ∧ o = o3 := by simpa using eb3
      obtain ⟨u, hu⟩ : ∃ u, qs[k]'(by rw [HM.out]; exact hkl) = u := ⟨_, rfl⟩
      have x0 : wr.cell? ⟨b2, o2 + k, none⟩ = some (.int .i64 u) := by rw [← hu]; exact stayCell hx0 HB.out
      have o0 : wr.cell? ⟨b, o + k1, none⟩ = some (.int .i64 u) := by
        have h := stayCell ho0 HB.out
        simp only [List.getElem_cons_succ, hu] at h
        rw [hk1] at h
        exact h
      clear hx0 ho0 eb3 hu hk1 hlt
      go_upto_region 18 with fail
      go_quiet (fail)
      go_wp2
      go_roundw
      case rel => exact ⟨k1, lek1 HK1.out hkl, rfl, drewNB HB.out _⟩
      case measure => exact mnk HK1.out hkl
end Go.Proofs.YtbopficnajdaoaaGreatDoor
