/-
  The walk of laws.FnDoRenew.
-/
import Derived.Test.YtbopficnajdaoaaGreatDoorLdM
namespace Go.Proofs.YtbopficnajdaoaaGreatDoor
open Go.RowKit
set_option maxRecDepth 100000
set_option linter.unusedVariables false

theorem wk3 {k : Nat} (h : k < 9) : wrap64 ((k : Int) + 1) = (k : Int) + 1 ∧ IntKind.i64.wrap ((k : Int) + 1) = (k : Int) + 1 ∧ IntKind.i64.wrap (k : Int) = (k : Int) ∧ wrap64 ((k : Int) + 1 - 1) = (k : Int) :=
  ⟨by unfold wrap64; omega, IntWalk.i64_in _ (by omega), IntWalk.i64_in _ (by omega), by unfold wrap64; omega⟩
theorem ltn (k n : Nat) : k < n ↔ (k : Int) < (n : Int) := by omega
theorem ltn1 {k n : Nat} (h : k < n) : (k : Int) + 1 < (n : Int) + 1 := by omega
theorem mn {k n : Nat} (h : k < n) : n - (intOf (.int .i64 ((k + 1 : Nat) : Int))).toNat < n - (intOf (.int .i64 (k : Int))).toNat := by
  simp only [intOf]; omega
theorem wkk {k k1 : Nat} (h : k + 1 = k1) (hk : k < 9) : wrap64 ((k : Int) + 1) = (k1 : Int) ∧ IntKind.i64.wrap ((k : Int) + 1) = (k1 : Int) ∧ IntKind.i64.wrap (k : Int) = (k : Int) ∧ IntKind.i64.wrap (k1 : Int) = (k1 : Int) :=
  ⟨by unfold wrap64; omega, by rw [show (k : Int) + 1 = (k1 : Int) by omega]; exact IntWalk.i64_in _ (by omega), IntWalk.i64_in _ (by omega), IntWalk.i64_in _ (by omega)⟩
theorem ltk1 {k k1 m m1 : Nat} (h : k + 1 = k1) (h2 : m + 1 = m1) (hk : k < m) : (k1 : Int) < (m1 : Int) ∧ k1 < m1 := by omega
theorem lek1 {k k1 m : Nat} (h : k + 1 = k1) (hk : k < m) : k1 ≤ m := by omega
theorem mnk {k k1 n : Nat} (e : k + 1 = k1) (h : k < n) : n - (intOf (.int .i64 (k1 : Int))).toNat < n - (intOf (.int .i64 (k : Int))).toNat := by
  simp only [intOf]; omega
theorem m1f {m m1 : Nat} (h : m + 1 = m1) (hb : m1 ≤ 3) : (((m1 : Int)) == 0) = false ∧ (0 : Int) < (m1 : Int) ∧ 0 < m1 ∧ wrap64 ((m1 : Int) - 1) = (m : Int) ∧ IntKind.i64.wrap ((m1 : Int) - 1) = (m : Int) :=
  ⟨by simp; omega, by omega, by omega, by unfold wrap64; omega, by rw [show (m1 : Int) - 1 = (m : Int) by omega]; exact IntWalk.i64_in _ (by omega)⟩
theorem kn1 (k : Nat) : Value.int .i64 ((k : Int) + 1) = Value.int .i64 ((k + 1 : Nat) : Int) := by congr 1
theorem implTNew_ok {k s v : Int} (ho : okT (newT k s v 0) = true) (w : World) (hf : KF w) :
    Calls Tryz.prog 29 #[.int .i64 k, .agg #[.int .i64 s, .int .i64 v], .int .i64 0] w (fun e w' => ∃ ss qs : Sl, e = .returned (.tuple #[(newT k s v 0).val ss qs, .bool true]) ∧ HasR w' ss (newT k s v 0).slots ∧ HasQ w' qs (newT k s v 0).queue ∧ Below w.heap.size w w') :=
  (implTNew_any k s v 0 w hf).mono fun e w' h => by
    obtain ⟨h1, hb⟩ := h
    rcases h1 with ⟨h1, -⟩ | ⟨-, ss, qs, h2, h3, h4, -⟩
    · rw [ho] at h1; cases h1
    · exact ⟨ss, qs, h2, h3, h4, hb⟩
theorem new_ok {l : List T8} {c : C5} (h : OkC l c) (hk : c.k = 8) (h0 : chkV l c = 0) {jo : Nat} (hjo : jo < l.length) (ho : (rOf l c).t = (jo : Int) + 1) : okT (newT l[jo].kind l[jo].sec l[jo].vou 0) = true := by
  have hko := (obj_ok h h0 (by omega)).2
  rw [ho, thAt_of hjo (by omega)] at hko
  have hkk := kind_of hko
  have h3 : l[jo].kind = 1 ∨ l[jo].kind = 2 ∨ l[jo].kind = 4 := by simpa [kindsOf, hk] using hkk
  exact okT_new (tab_okT h.tab hjo) h3 (v := 0) ⟨by decide, by decide⟩
theorem neqi {a b : Int} (h : ¬ a = b) : (a == b) = false ∧ (a != b) = true := by
  have h1 : (a == b) = false := by simpa using h
  exact ⟨h1, by simp [bne, h1]⟩
theorem s4in {k n : Nat} (h : k < n) (h8 : n ≤ 4) : k < 9 := by omega
theorem kin {k n : Nat} (h : k < n) (h8 : n ≤ 8) : k < 9 := by omega
theorem wv5 {v : Int} (h : 0 ≤ v ∧ v ≤ 5) : wrap64 (v + 1) = v + 1 ∧ IntKind.i64.wrap (v + 1) = v + 1 := ⟨by unfold wrap64; omega, IntWalk.i64_in _ (by omega)⟩
set_option maxHeartbeats 16000000 in
theorem walk_FnDoRenew (a0 : Option Addr) (len0 cap0 : Nat) (z0 : List Int) (w : World) (hKF : KF w) (hET : ET w) (w0 : IsRow .u8 w a0 len0 cap0 z0) :
    Calls Tryz.prog 5 #[.slice a0 len0 cap0] w fun e w' => e = .returned (.bool true) ∧ Below w.heap.size w w' := by
  by_cases g0 : (1048576 : Int) < (len0 : Int)
  · go_enter Tryz.func5, Tryz.ntmps5
    go_wp2
    go_ret
    exact ⟨rfl, Below.refl _ _⟩
  have W0 := Lib.hid w0
  have HF := Lib.hid hKF
  have HE := Lib.hid hET
  clear w0 hKF hET
  go_enter Tryz.func5, Tryz.ntmps5
  go_wp2_with fail
  refine (drawCD_any a0 len0 cap0 z0 _ W0.out).mono ?_
  rintro e y0 ⟨g, c, l, q, rfl, hT, l3, l8, hzs, hb⟩
  have K0 := Lib.hid ((Kn.start hb).new 25 (C5.cs q))
  have T0 := Lib.hid (hT.stay ((Below.refl _ _).alloc (Nat.le_refl _) (.cells (C5.cs q) 25)))
  have HZS := Lib.hid hzs
  have hz : l.length ≤ 1048576 := by omega
  clear W0 hb hT hzs
  obtain ⟨x, ans, hv⟩ : ∃ x ans, callV l q = (x, ans) := ⟨_, _, rfl⟩
  have HV := Lib.hid hv
  have HSX := Lib.hid (call_sm hv)
  clear hv
  go_wp2_with fail
  refine (specDo_val (s := ⟨some ⟨g, 0, none⟩, l.length, c⟩) HV.out _ T0.out hz HZS.out).mono ?_
  rintro e y1 ⟨s1, ts1, rfl, t1, hm1, hb⟩
  have K1 := Lib.hid (K0.out.stay hb)
  have T1 := Lib.hid (T0.out.stay hb)
  have X1 := Lib.hid (show HasT y1 s1 x from hm1 ▸ t1.hasT)
  clear hb t1 hm1 K0 T0
  have c0 := K1.out.c (b := y0.heap.size) (T := 25) (vs := C5.cs q) (by simp) 0 _ rfl
  have c1 := K1.out.c (b := y0.heap.size) (T := 25) (vs := C5.cs q) (by simp) 1 _ rfl
  have c2 := K1.out.c (b := y0.heap.size) (T := 25) (vs := C5.cs q) (by simp) 2 _ rfl
  have c3 := K1.out.c (b := y0.heap.size) (T := 25) (vs := C5.cs q) (by simp) 3 _ rfl
  have c4 := K1.out.c (b := y0.heap.size) (T := 25) (vs := C5.cs q) (by simp) 4 _ rfl
  go_wp2_with fail
  refine (implDo_val (s := ⟨some ⟨g, 0, none⟩, l.length, c⟩) HV.out _ T1.out (HF.out.stay K1.out.1) (HE.out.stay K1.out.1) hz).mono ?_
  rintro e y2 ⟨s2, ts2, rfl, t2, hm2, hb⟩
  have K2 := Lib.hid (K1.out.stay hb)
  have T2 := Lib.hid (T1.out.stay hb)
  have X2 := Lib.hid (X1.out.stay hb)
  have P2 := Lib.hid (show HasT y2 s2 x from hm2 ▸ t2.hasT)
  have HA2 := Lib.hid (show 0 < x.length → ∃ gx, s2.a = some ⟨gx, 0, none⟩ from fun h => by
    obtain ⟨gx, cur, e, -⟩ := t2.1.form (by have := congrArg List.length hm2; simp at this; omega)
    exact ⟨gx, e⟩)
  clear hb t2 hm2 K1 T1 X1 c0 c1 c2 c3 c4
  go_wp2_with fail
  refine (ldTable_same x s2 s1 _ P2.out X2.out HSX.out.1 HSX.out.2).mono ?_
  rintro e y3 ⟨rfl, hb⟩
  have K3 := Lib.hid (K2.out.stay hb)
  have T3 := Lib.hid (T2.out.stay hb)
  have X3 := Lib.hid (X2.out.stay hb)
  have P3 := Lib.hid (P2.out.stay hb)
  clear hb K2 T2 X2 P2
  have c0 := K3.out.c (b := y0.heap.size) (T := 25) (vs := C5.cs q) (by simp) 0 _ rfl
  have c1 := K3.out.c (b := y0.heap.size) (T := 25) (vs := C5.cs q) (by simp) 1 _ rfl
  have c2 := K3.out.c (b := y0.heap.size) (T := 25) (vs := C5.cs q) (by simp) 2 _ rfl
  have c3 := K3.out.c (b := y0.heap.size) (T := 25) (vs := C5.cs q) (by simp) 3 _ rfl
  have c4 := K3.out.c (b := y0.heap.size) (T := 25) (vs := C5.cs q) (by simp) 4 _ rfl
  go_wp2_with fail
  refine (ldCan_any l g l.length c q _ T3.out rfl (HF.out.stay K3.out.1) hz).mono ?_
  rintro e y4 ⟨v, rfl, hv, hb⟩
  have HVV := Lib.hid hv
  have K4 := Lib.hid (K3.out.stay hb)
  have T4 := Lib.hid (T3.out.stay hb)
  have X4 := Lib.hid (X3.out.stay hb)
  have P4 := Lib.hid (P3.out.stay hb)
  clear hb hv K3 T3 X3 P3 c0 c1 c2 c3 c4
  cases v
  · go_wp2_with fail
    refine (ldTable_same x s2 s1 _ P4.out X4.out HSX.out.1 HSX.out.2).mono ?_
    rintro e y5 ⟨rfl, hb⟩
    have HB := Lib.hid (K4.out.stay hb).1
    clear hb
    go_wp2
    go_ret
    exact ⟨rfl, HB.out⟩
  have HO := Lib.hid (HVV.out.1 rfl)
  have HXA := Lib.hid (show x = (doV l q).1 ∧ ans = (doV l q).2 by
    have := HV.out
    rw [callV_ok HO.out] at this
    rw [this]; exact ⟨rfl, rfl⟩)
  have hxl : x.length = l.length := by rw [HXA.out.1, do_len]
  obtain ⟨gx, hs2⟩ := HA2.out (by omega)
  have hsn : s2.n = l.length := by rw [P4.out.1, hxl]
  have HXL := Lib.hid hxl
  obtain ⟨s2a, s2n, cx⟩ := s2
  dsimp only at hs2 hsn
  subst hs2 hsn
  obtain ⟨jr, hjr, hcr, hth, hkr⟩ := HO.out.run
  have hbd := C5.bd HO.out.2
  obtain ⟨ck, cr, ca, cbb, cn⟩ := q
  dsimp only at *
  subst hcr
  obtain ⟨ja, rfl⟩ : ∃ ja : Nat, ca = ja := ⟨ca.toNat, by omega⟩
  obtain ⟨jb, rfl⟩ : ∃ jb : Nat, cbb = jb := ⟨cbb.toNat, by omega⟩
  have hja : ja < 4 := by omega
  have hjb : jb < 4 := by omega
  have hjr' : (jr : Int) < (l.length : Int) := by omega
  have hja' : (ja : Int) < 4 := by omega
  have hjb' : (jb : Int) < 4 := by omega
  have wr : wrap64 ((jr : Int) + 1 - 1) = (jr : Int) := by unfold wrap64; omega
  have wr2 : IntKind.i64.wrap (jr : Int) = (jr : Int) := IntWalk.i64_in _ (by omega)
  have HBD := Lib.hid hbd
  have HTH := Lib.hid hth
  have HKR := Lib.hid hkr
  clear hbd hth hkr hxl HA2 HV HVV X4 HZS
  have c0 := K4.out.c (b := y0.heap.size) (T := 25) (vs := C5.cs ⟨ck, (jr : Int) + 1, (ja : Int), (jb : Int), cn⟩) (by simp) 0 _ rfl
  have c1 := K4.out.c (b := y0.heap.size) (T := 25) (vs := C5.cs ⟨ck, (jr : Int) + 1, (ja : Int), (jb : Int), cn⟩) (by simp) 1 _ rfl
  have c2 := K4.out.c (b := y0.heap.size) (T := 25) (vs := C5.cs ⟨ck, (jr : Int) + 1, (ja : Int), (jb : Int), cn⟩) (by simp) 2 _ rfl
  have c3 := K4.out.c (b := y0.heap.size) (T := 25) (vs := C5.cs ⟨ck, (jr : Int) + 1, (ja : Int), (jb : Int), cn⟩) (by simp) 3 _ rfl
  have c4 := K4.out.c (b := y0.heap.size) (T := 25) (vs := C5.cs ⟨ck, (jr : Int) + 1, (ja : Int), (jb : Int), cn⟩) (by simp) 4 _ rfl
  by_cases hk1 : ¬ ck = 8
  · have hk1' : (ck == 8) = false := by simpa using hk1
    have hk1'' : (ck != 8) = true := by simpa using hk1
    clear hk1
    go_wp2
    go_ret
    exact ⟨rfl, K4.out.1⟩
  obtain rfl : ck = 8 := Classical.not_not.1 hk1
  clear hk1
  by_cases ha0 : ¬ ans = 0
  · have ha0' : (ans == 0) = false := by simpa using ha0
    have ha0'' : (ans != 0) = true := by simpa using ha0
    clear ha0
    go_wp2
    go_ret
    exact ⟨rfl, K4.out.1⟩
  obtain rfl : ans = 0 := Classical.not_not.1 ha0
  have hans0 : (0 : Int) ≤ 0 := by decide
  clear ha0
  have h0 := pass_of HO.out (by rw [← HXA.out.2]; exact hans0)
  obtain ⟨jo, hjo, hro, hnj⟩ := obj_get HO.out h0 (show (8 : Int) ≠ 3 by decide) hjr rfl
  have hjo' : (jo : Int) < (l.length : Int) := by omega
  have wo : wrap64 ((jo : Int) + 1 - 1) = (jo : Int) := by unfold wrap64; omega
  have wo2 : IntKind.i64.wrap (jo : Int) = (jo : Int) := IntWalk.i64_in _ (by omega)
  have HH0 := Lib.hid h0
  have HRO := Lib.hid hro
  have HNJ := Lib.hid hnj
  clear h0 hro hnj
  obtain ⟨jr1, ja1, hjr1, rb, ro, sc, qs, er1, ea1, -, eth1, hA, hB, -⟩ := slot_at T4.out HO.out.1 HO.out.2
  obtain rfl : jr = jr1 := by dsimp only at er1; omega
  obtain rfl : ja = ja1 := by dsimp only at ea1; omega
  obtain ⟨r, hr⟩ : ∃ r, rOf l ⟨8, (jr : Int) + 1, (ja : Int), (jb : Int), cn⟩ = r := ⟨_, rfl⟩
  have hBr : At y4 rb (ro + ja * 5) r.cs := by rw [← hr]; exact hB
  obtain ⟨rt, rv, rr, rw_, rk⟩ := r
  have HR := Lib.hid hr
  have f5 : y4.cell? ⟨g, jr * 8 + 5, none⟩ = some (.slice (some ⟨rb, ro, none⟩) 4 sc) := hA 5 _ rfl
  have g0' : y4.cell? ⟨rb, ro + ja * 5, none⟩ = some (.int .i64 rt) := hBr 0 _ rfl
  have g1 : y4.cell? ⟨rb, ro + ja * 5 + 1, none⟩ = some (.int .i64 rv) := hBr 1 _ rfl
  have g2 : y4.cell? ⟨rb, ro + ja * 5 + 2, none⟩ = some (.bool rr) := hBr 2 _ rfl
  have g3 : y4.cell? ⟨rb, ro + ja * 5 + 3, none⟩ = some (.bool rw_) := hBr 3 _ rfl
  have g4 : y4.cell? ⟨rb, ro + ja * 5 + 4, none⟩ = some (.bool rk) := hBr 4 _ rfl
  have hbl1 := cell_lt f5
  have hbl2 := cell_lt g0'
  have hbl3 := cell_lt c0
  clear hA hB hBr hr er1 ea1 eth1
  go_upto_region 10 with fail
  go_region
  have K5 := Lib.hid ((K4.out.new 34 (R5.cs ⟨rt, rv, rr, rw_, rk⟩)).drew)
  have B5 := Lib.hid (((Below.refl y4.heap.size y4).alloc (Nat.le_refl _) (.cells (R5.cs ⟨rt, rv, rr, rw_, rk⟩) 34)).drew)
  have T5 := Lib.hid (T4.out.stay B5.out)
  have P5 := Lib.hid (P4.out.stay B5.out)
  obtain ⟨Y, hY⟩ : ∃ Y, (y4.alloc (.cells (R5.cs ⟨rt, rv, rr, rw_, rk⟩) 34)).drew = Y := ⟨_, rfl⟩
  rw [hY] at K5 B5 T5 P5 ⊢
  clear hY K4 T4 P4 f5 g0' g1 g2 g3 g4 c0 c1 c2 c3 c4
  have hrt : rt = (jo : Int) + 1 := by have := HRO.out; rw [HR.out] at this; exact this
  subst hrt
  have HDR := Lib.hid (do_renew HO.out rfl HH0.out hjr rfl hjo (by rw [HR.out]))
  have HNO := Lib.hid (new_ok HO.out rfl HH0.out hjo (by rw [HR.out]))
  have HVE := Lib.hid (okT_vers (tab_okT HO.out.tab hjo))
  obtain ⟨lv, hlv⟩ : ∃ lv, liveB l ⟨(jo : Int) + 1, rv, rr, rw_, rk⟩ = lv := ⟨_, rfl⟩
  have HLV := Lib.hid (show tabLive l ⟨(jo : Int) + 1, rv, rr, rw_, rk⟩ = lv by rw [← HR.out, liveB_tab HO.out, HR.out]; exact hlv)
  have HLB := Lib.hid (show liveB l (rOf l ⟨8, (jr : Int) + 1, (ja : Int), (jb : Int), cn⟩) = lv by rw [HR.out]; exact hlv)
  clear hlv
  have r0 := K5.out.c (b := y4.heap.size) (T := 34) (vs := R5.cs ⟨(jo : Int) + 1, rv, rr, rw_, rk⟩) (by simp) 0 _ rfl
  have r1 := K5.out.c (b := y4.heap.size) (T := 34) (vs := R5.cs ⟨(jo : Int) + 1, rv, rr, rw_, rk⟩) (by simp) 1 _ rfl
  have r2 := K5.out.c (b := y4.heap.size) (T := 34) (vs := R5.cs ⟨(jo : Int) + 1, rv, rr, rw_, rk⟩) (by simp) 2 _ rfl
  have r3 := K5.out.c (b := y4.heap.size) (T := 34) (vs := R5.cs ⟨(jo : Int) + 1, rv, rr, rw_, rk⟩) (by simp) 3 _ rfl
  have r4 := K5.out.c (b := y4.heap.size) (T := 34) (vs := R5.cs ⟨(jo : Int) + 1, rv, rr, rw_, rk⟩) (by simp) 4 _ rfl
  go_wp2_with fail
  refine (implTabLive_val' (s := ⟨some ⟨g, 0, none⟩, l.length, c⟩) (r := ⟨(jo : Int) + 1, rv, rr, rw_, rk⟩) HLV.out _ T5.out (HF.out.stay K5.out.1) hz).mono ?_
  rintro e y6 ⟨rfl, hb⟩
  have K6 := Lib.hid (K5.out.stay hb)
  have T6 := Lib.hid (T5.out.stay hb)
  have P6 := Lib.hid (P5.out.stay hb)
  clear hb K5 T5 P5 r0 r1 r2 r3 r4
  obtain ⟨so, qo, -, -, hAo⟩ := T6.out.cells hjo
  obtain ⟨kd, hkd⟩ : ∃ kd, (l[jo]'hjo).kind = kd := ⟨_, rfl⟩
  obtain ⟨sd, hsd⟩ : ∃ kd, (l[jo]'hjo).sec = kd := ⟨_, rfl⟩
  obtain ⟨vd, hvd⟩ : ∃ kd, (l[jo]'hjo).vou = kd := ⟨_, rfl⟩
  obtain ⟨ve, hve⟩ : ∃ kd, (l[jo]'hjo).vers = kd := ⟨_, rfl⟩
  have d0 : y6.cell? ⟨g, jo * 8, none⟩ = some (.int .i64 kd) := by rw [← hkd]; exact hAo 0 _ rfl
  have d1 : y6.cell? ⟨g, jo * 8 + 1, none⟩ = some (.int .i64 sd) := by rw [← hsd]; exact hAo 1 _ rfl
  have d2 : y6.cell? ⟨g, jo * 8 + 2, none⟩ = some (.int .i64 vd) := by rw [← hvd]; exact hAo 2 _ rfl
  have d3 : y6.cell? ⟨g, jo * 8 + 3, none⟩ = some (.int .i64 ve) := by rw [← hve]; exact hAo 3 _ rfl
  have hdr := HDR.out
  have hno := HNO.out
  have hvb := HVE.out
  rw [HLB.out, hkd, hsd, hvd, hve] at hdr
  rw [hkd, hsd, hvd] at hno
  rw [hve] at hvb
  have HVL := Lib.hid hve
  clear hAo hkd hsd hvd hve HDR HNO HVE HLB
  have HNO := Lib.hid hno
  have HVB := Lib.hid hvb
  clear hno hvb
  by_cases hgo : ¬ (lv = true ∧ ve < 5)
  · as_aux_lemma =>
      rw [if_neg hgo] at hdr
      have HSAME := Lib.hid (show x[jo]'(by rw [HXL.out]; exact hjo) = l[jo]'hjo by rw [get_of HXA.out.1 (i := jo) (by rw [HXL.out]; exact hjo)]; exact hdr)
      have hfull : lv = false ∨ lv = true ∧ ve = 5 := by
        cases lv with
        | false => exact .inl rfl
        | true =>
          have h1 : ¬ ve < 5 := fun h => hgo ⟨rfl, h⟩
          have h2 := HVB.out
          exact .inr ⟨rfl, by omega⟩
      clear hgo hdr d0 d1 d2
      have r0 := K6.out.c (b := y4.heap.size) (T := 34) (vs := R5.cs ⟨(jo : Int) + 1, rv, rr, rw_, rk⟩) (by simp) 0 _ rfl
      rcases hfull with rfl | ⟨rfl, rfl⟩
      all_goals
        obtain ⟨ss, qs, hRs, hQs, hAs⟩ := T6.out.cells hjo
        obtain ⟨sx, qx, hRx, hQx, hAx⟩ := P6.out.cells (i := jo) (by rw [HXL.out]; exact hjo)
        rw [HSAME.out] at hRx hQx hAx
        obtain ⟨z, hz'⟩ : ∃ z, l[jo]'hjo = z := ⟨_, rfl⟩
        have hsm := get_set_sm (fun i hi => by have := (tab_small HO.out.tab).2 i hi; omega) hjo hz'
        rw [hz'] at hRs hQs hAs hRx hQx hAx
        have d0 : y6.cell? ⟨g, jo * 8, none⟩ = some (.int .i64 z.kind) := hAs 0 _ rfl
        have d1 : y6.cell? ⟨g, jo * 8 + 1, none⟩ = some (.int .i64 z.sec) := hAs 1 _ rfl
        have d2 : y6.cell? ⟨g, jo * 8 + 2, none⟩ = some (.int .i64 z.vou) := hAs 2 _ rfl
        have d3 : y6.cell? ⟨g, jo * 8 + 3, none⟩ = some (.int .i64 z.vers) := hAs 3 _ rfl
        have d4 : y6.cell? ⟨g, jo * 8 + 4, none⟩ = some (.int .i64 z.num) := hAs 4 _ rfl
        have d5 : y6.cell? ⟨g, jo * 8 + 5, none⟩ = some (.slice ss.a ss.n ss.c) := hAs 5 _ rfl
        have d6 : y6.cell? ⟨g, jo * 8 + 6, none⟩ = some (.slice qs.a qs.n qs.c) := hAs 6 _ rfl
        have d7 : y6.cell? ⟨g, jo * 8 + 7, none⟩ = some (.int .i64 z.to) := hAs 7 _ rfl
        have e0 : y6.cell? ⟨gx, jo * 8, none⟩ = some (.int .i64 z.kind) := hAx 0 _ rfl
        have e1 : y6.cell? ⟨gx, jo * 8 + 1, none⟩ = some (.int .i64 z.sec) := hAx 1 _ rfl
        have e2 : y6.cell? ⟨gx, jo * 8 + 2, none⟩ = some (.int .i64 z.vou) := hAx 2 _ rfl
        have e3 : y6.cell? ⟨gx, jo * 8 + 3, none⟩ = some (.int .i64 z.vers) := hAx 3 _ rfl
        have e4 : y6.cell? ⟨gx, jo * 8 + 4, none⟩ = some (.int .i64 z.num) := hAx 4 _ rfl
        have e5 : y6.cell? ⟨gx, jo * 8 + 5, none⟩ = some (.slice sx.a sx.n sx.c) := hAx 5 _ rfl
        have e6 : y6.cell? ⟨gx, jo * 8 + 6, none⟩ = some (.slice qx.a qx.n qx.c) := hAx 6 _ rfl
        have e7 : y6.cell? ⟨gx, jo * 8 + 7, none⟩ = some (.int .i64 z.to) := hAx 7 _ rfl
        have r0x : y6.cell? ⟨y4.heap.size, 0, none⟩ = some (.int .i64 ((jo : Int) + 1)) := (K6.out.box (b := y4.heap.size) (T := 34) (vs := R5.cs ⟨(jo : Int) + 1, rv, rr, rw_, rk⟩) (by simp)).cell 0 _ rfl
        have HLD := Lib.hid (fun zz : Wd (Kn y6 []) => ldThing_same z sx qx ss qs zz.w (hRx.stay zz.ok.1) (hQx.stay zz.ok.1) (hRs.stay zz.ok.1) (hQs.stay zz.ok.1) hsm.1 hsm.2)
        clear hRx hQx hAx hRs hQs hAs hz' hsm
        have qd0 := fun zz : Wd (Kn y6 []) => stayCell d0 zz.ok.1
        have qd1 := fun zz : Wd (Kn y6 []) => stayCell d1 zz.ok.1
        have qd2 := fun zz : Wd (Kn y6 []) => stayCell d2 zz.ok.1
        have qd3 := fun zz : Wd (Kn y6 []) => stayCell d3 zz.ok.1
        have qd4 := fun zz : Wd (Kn y6 []) => stayCell d4 zz.ok.1
        have qd5 := fun zz : Wd (Kn y6 []) => stayCell d5 zz.ok.1
        have qd6 := fun zz : Wd (Kn y6 []) => stayCell d6 zz.ok.1
        have qd7 := fun zz : Wd (Kn y6 []) => stayCell d7 zz.ok.1
        have qe0 := fun zz : Wd (Kn y6 []) => stayCell e0 zz.ok.1
        have qe1 := fun zz : Wd (Kn y6 []) => stayCell e1 zz.ok.1
        have qe2 := fun zz : Wd (Kn y6 []) => stayCell e2 zz.ok.1
        have qe3 := fun zz : Wd (Kn y6 []) => stayCell e3 zz.ok.1
        have qe4 := fun zz : Wd (Kn y6 []) => stayCell e4 zz.ok.1
        have qe5 := fun zz : Wd (Kn y6 []) => stayCell e5 zz.ok.1
        have qe6 := fun zz : Wd (Kn y6 []) => stayCell e6 zz.ok.1
        have qe7 := fun zz : Wd (Kn y6 []) => stayCell e7 zz.ok.1
        have qr0x := fun zz : Wd (Kn y6 []) => stayCell r0x zz.ok.1
        have ne : Nonempty (Wd (Kn y6 [])) := ⟨⟨_, (Kn.refl (w := y6)).drew⟩⟩
        clear d0 d1 d2 d3 d4 d5 d6 d7 e0 e1 e2 e3 e4 e5 e6 e7 r0x
        go_upto_region 12 with fail
        refine wp_region_quiet (C := fun y => ∃ zz : Wd (Kn y6 []), y = zz.w) (by kernel_rfl) (by kernel_rfl) ⟨⟨_, (Kn.refl (w := y6)).drew⟩, rfl⟩ ?_
        show wpQuiet _ _ _ _ [_, _, _, _, _, _, _, _, _, _, _, _, _, _] _
        repeat (first | go_big_quiet_step ((go_at_call 28; with_reducible exact inCls Kn.stay (HLD.out _))) | quiet_step ((go_at_call 28; with_reducible exact inCls Kn.stay (HLD.out _))))
        refine wpQuiet_nil ?_
        rintro _ ⟨⟨y9, K9⟩, rfl⟩
        have HB2 := Lib.hid (K6.out.stay K9.1).1
        clear ne qd0 qd1 qd2 qd3 qd4 qd5 qd6 qd7 qe0 qe1 qe2 qe3 qe4 qe5 qe6 qe7 qr0x K9 HLD
        go_wp2
        go_ret
        exact ⟨by simp [*], HB2.out⟩
  have hgo := Classical.not_not.1 hgo
  rw [if_pos hgo] at hdr
  obtain ⟨rfl, hv5⟩ := hgo
  have HXJ := Lib.hid (show x[jo]'(by rw [HXL.out]; exact hjo) = { (newT kd sd vd 0) with vers := ve + 1 } by rw [get_of HXA.out.1 (i := jo) (by rw [HXL.out]; exact hjo)]; exact hdr)
  have HGONE := Lib.hid (show ∀ (i k : Nat) (hi : i < l.length) (hk : k < (x[i]'(by rw [HXL.out]; exact hi)).slots.length), ((x[i]'(by rw [HXL.out]; exact hi)).slots[k]).t = (jo : Int) + 1 → tabLive x ((x[i]'(by rw [HXL.out]; exact hi)).slots[k]) = false from fun i k hi hk ht => by
    have e1 := HXA.out.1
    subst e1
    exact renew_gone HO.out hjo (by rw [hdr, HVL.out]; dsimp only; omega) hi hk ht)
  have HS4 := Lib.hid (show ∀ (i : Nat) (hi : i < l.length), (x[i]'(by rw [HXL.out]; exact hi)).slots.length ≤ 4 from fun i hi => by
    have h := (stp_ok HO.out hi (ans_bd HO.out) (do_step HO.out i hi)).1
    rw [← get_of HXA.out.1 (i := i) (by rw [HXL.out]; exact hi)] at h
    exact okT_slots h)
  have nv5 : (ve == 5) = false := (neqi (by omega)).1
  obtain ⟨wv1, wv2⟩ : wrap64 (ve + 1) = ve + 1 ∧ IntKind.i64.wrap (ve + 1) = ve + 1 := wv5 HVB.out
  clear hdr hv5 HVL
  have r0 := K6.out.c (b := y4.heap.size) (T := 34) (vs := R5.cs ⟨(jo : Int) + 1, rv, rr, rw_, rk⟩) (by simp) 0 _ rfl
  go_upto_region 13 with fail
  have bA : Below y6.heap.size y6 (y6.alloc (.cells #[.int .i64 0, .int .i64 0, .int .i64 0, .int .i64 0, .int .i64 0, .slice none 0 0, .slice none 0 0, .int .i64 0] 40)).drew := ((Below.refl _ _).alloc (Nat.le_refl _) _).drew
  go_cut [10, 11] (fun sl f wx => NewAt y6 (newT kd sd vd 0) sl wx ∧ f = .bool true)
  case first =>
    have FX := Lib.hid (show ∀ y, Below y6.heap.size y6 y → Below y6.heap.size y6 y ∧ y.cell? ⟨y4.heap.size, 0, none⟩ = some (.int .i64 ((jo : Int) + 1)) ∧ y.cell? ⟨g, jo * 8, none⟩ = some (.int .i64 kd) ∧ y.cell? ⟨g, jo * 8 + 1, none⟩ = some (.int .i64 sd) ∧ y.cell? ⟨g, jo * 8 + 2, none⟩ = some (.int .i64 vd) from fun y h => ⟨h, stayCell r0 h, stayCell d0 h, stayCell d1 h, stayCell d2 h⟩)
    have hC0 : Below y6.heap.size y6 y6 := Below.refl _ _
    have hC : Below y6.heap.size y6 y6.drew := (Below.refl _ _).drew
    have hB := bA
    have hB0 : Below y6.heap.size y6 (y6.alloc (.cells #[.int .i64 0, .int .i64 0, .int .i64 0, .int .i64 0, .int .i64 0, .slice none 0 0, .slice none 0 0, .int .i64 0] 40)) := (Below.refl _ _).alloc (Nat.le_refl _) _
    have HFy := Lib.hid (show ∀ y, Below y6.heap.size y6 y → KF y from fun y h => (HF.out.stay K6.out.1).stay h)
    clear r0 d0 d1 d2 d3 bA
    go_region_held3 (fun y => Below y6.heap.size y6 y ∧ y.cell? ⟨y4.heap.size, 0, none⟩ = some (.int .i64 ((jo : Int) + 1)) ∧ y.cell? ⟨g, jo * 8, none⟩ = some (.int .i64 kd) ∧ y.cell? ⟨g, jo * 8 + 1, none⟩ = some (.int .i64 sd) ∧ y.cell? ⟨g, jo * 8 + 2, none⟩ = some (.int .i64 vd))
      (first | with_reducible exact FX.out _ hB | with_reducible exact FX.out _ hB0 | with_reducible exact FX.out _ hC | with_reducible exact FX.out _ hC0 | with_reducible exact FX.out _ (below_new hB) | with_reducible exact FX.out _ (below_put8 hB (Nat.le_refl _) _ _ _ _ _ _ _ _))
      (first | (go_at_call 29; refine (implTNew_any kd sd vd 0 _ (HFy.out _ hB)).mono ?_; intro e y7 hN; obtain ⟨ss, q, rfl, th5, hb5⟩ := new_thW hN HNO.out; have bz := (Box.fresh y6 40 #[.int .i64 0, .int .i64 0, .int .i64 0, .int .i64 0, .int .i64 0, .slice none 0 0, .slice none 0 0, .int .i64 0]).drew.stay hb5; have z0 := bz.cell 0 _ rfl; have z1 := bz.cell 1 _ rfl; have z2 := bz.cell 2 _ rfl; have z3 := bz.cell 3 _ rfl; have z4 := bz.cell 4 _ rfl; have z5 := bz.cell 5 _ rfl; have z6 := bz.cell 6 _ rfl; have z7 := bz.cell 7 _ rfl; have tz0 := bz.thaw 0; have tz1 := bz.thaw 1; have tz2 := bz.thaw 2; have tz3 := bz.thaw 3; have tz4 := bz.thaw 4; have tz5 := bz.thaw 5; have tz6 := bz.thaw 6; have tz7 := bz.thaw 7; clear bz; have TH5 := Lib.hid th5; have HB5 := Lib.hid hb5; have hB : Below y6.heap.size y6 y7 := hB.trans (hb5.mono hB.size); clear hN th5 hb5) | (go_at_call 29; refine (implTNew_any kd sd vd 0 _ (HFy.out _ hC)).mono ?_; intro e y7 hN; obtain ⟨ss, q, rfl, th5, hb5⟩ := new_thW hN HNO.out; have TH5 := Lib.hid th5; have HB5 := Lib.hid hb5; have hB : Below y6.heap.size y6 y7 := hC.trans (hb5.mono hC.size); clear hN th5 hb5))
    all_goals
      go_wp2_with fail
      go_meet
      first | with_reducible exact ⟨newAt_late TH5.out HB5.out, rfl⟩ | with_reducible exact ⟨newAt_soon TH5.out HB5.out, rfl⟩
  case rest =>
    obtain ⟨⟨rb, ss, q, rfl, hrb, th5, hbc, bN⟩, rfl⟩ := hcut
    obtain ⟨nt, hnt⟩ : ∃ nt, (newT kd sd vd 0) = nt := ⟨_, rfl⟩
    rw [hnt] at th5 bN
    have hxj := HXJ.out
    rw [hnt] at hxj
    have HXN := Lib.hid hxj
    have m3 := stayCell d3 hbc
    have r0c := stayCell r0 hbc
    have n3 := bN.cell 3 _ rfl
    have g3 := bN.thaw 3
    obtain ⟨V, hV⟩ : ∃ V, wc.setCell ⟨rb, 3, none⟩ (.int .i64 (ve + 1)) = V := ⟨_, rfl⟩
    have bV : Box V rb 40 (T8.cs { nt with vers := ve + 1 } ss q) := by
      have := bN.put 3 (.int .i64 (ve + 1))
      rw [hV] at this
      exact this
    have bcV : Below y6.heap.size y6 V := hV ▸ hbc.setCell (p := ⟨rb, 3, none⟩) hrb _
    have th3 : ThW y6.heap.size V ({ nt with vers := ve + 1 }, ss, q) := by
      have h1 : ThW y6.heap.size wc (nt, ss, q) := th5
      have h2 : ThW y6.heap.size V (nt, ss, q) := hV ▸ h1.keep (fun b T cs hT _ bx => bx.other (p := ⟨rb, 3, none⟩) (Box.ne bx bN hT.neT) _) (fun b T cs hT _ bx => bx.other (p := ⟨rb, 3, none⟩) (Box.ne bx bN hT.neT) _)
      exact h2
    have BV := Lib.hid bV
    have TH3 := Lib.hid th3.thH
    have KV := Lib.hid (K6.out.stay bcV)
    have PV := Lib.hid (P6.out.stay bcV)
    have HNT := Lib.hid hnt
    clear HXJ hxj hnt th5 hbc bN bV bcV th3 r0 d0 d1 d2 d3 K6 T6 P6 bA hrb
    go_wp2
    go_loopw [12] (fun i wr => ∃ k : Nat, k ≤ l.length ∧ i = .int .i64 k ∧ Below V.heap.size V wr) (fun i _ => l.length - (intOf i).toNat)
    case atStart => exact ⟨0, Nat.zero_le _, rfl, Below.refl _ _⟩
    case round =>
      clear m3 r0c n3 g3
      obtain ⟨k, hk, rfl, B0⟩ := hrel
      obtain ⟨wA, hwA⟩ : ∃ wA, wA = wr := ⟨_, rfl⟩
      subst hwA
      have HB := Lib.hid B0
      have KK := Lib.hid (KV.out.stay B0)
      have PK := Lib.hid (PV.out.stay B0)
      clear B0
      have r0 := KK.out.c (b := y4.heap.size) (T := 34) (vs := R5.cs ⟨(jo : Int) + 1, rv, rr, rw_, rk⟩) (by simp) 0 _ rfl
      by_cases hlt : ¬ k < l.length
      · as_aux_lemma =>
          have hlt' : ¬ (k : Int) < (l.length : Int) := fun h => hlt ((ltn k l.length).2 h)
          obtain ⟨sx, qx, hRx, hQx, hAx⟩ := PK.out.cells (i := jo) (by rw [HXL.out]; exact hjo)
          have hsm := HSX.out.2 jo (by rw [HXL.out]; exact hjo)
          rw [HXN.out] at hRx hQx hAx hsm
          obtain ⟨z, hz'⟩ : ∃ z, ({ nt with vers := ve + 1 } : T8) = z := ⟨_, rfl⟩
          have bz := BV.out.stay HB.out
          have hRn := TH3.out.1.stay HB.out
          have hQn := TH3.out.2.stay HB.out
          rw [hz'] at hRx hQx hAx hsm bz hRn hQn
          have e0 : wA.cell? ⟨gx, jo * 8, none⟩ = some (.int .i64 z.kind) := hAx 0 _ rfl
          have e1 : wA.cell? ⟨gx, jo * 8 + 1, none⟩ = some (.int .i64 z.sec) := hAx 1 _ rfl
          have e2 : wA.cell? ⟨gx, jo * 8 + 2, none⟩ = some (.int .i64 z.vou) := hAx 2 _ rfl
          have e3 : wA.cell? ⟨gx, jo * 8 + 3, none⟩ = some (.int .i64 z.vers) := hAx 3 _ rfl
          have e4 : wA.cell? ⟨gx, jo * 8 + 4, none⟩ = some (.int .i64 z.num) := hAx 4 _ rfl
          have e5 : wA.cell? ⟨gx, jo * 8 + 5, none⟩ = some (.slice sx.a sx.n sx.c) := hAx 5 _ rfl
          have e6 : wA.cell? ⟨gx, jo * 8 + 6, none⟩ = some (.slice qx.a qx.n qx.c) := hAx 6 _ rfl
          have e7 : wA.cell? ⟨gx, jo * 8 + 7, none⟩ = some (.int .i64 z.to) := hAx 7 _ rfl
          have n0 : wA.cell? ⟨rb, 0, none⟩ = some (.int .i64 z.kind) := bz.cell 0 _ rfl
          have n1 : wA.cell? ⟨rb, 1, none⟩ = some (.int .i64 z.sec) := bz.cell 1 _ rfl
          have n2 : wA.cell? ⟨rb, 2, none⟩ = some (.int .i64 z.vou) := bz.cell 2 _ rfl
          have n3 : wA.cell? ⟨rb, 3, none⟩ = some (.int .i64 z.vers) := bz.cell 3 _ rfl
          have n4 : wA.cell? ⟨rb, 4, none⟩ = some (.int .i64 z.num) := bz.cell 4 _ rfl
          have n5 : wA.cell? ⟨rb, 5, none⟩ = some (.slice ss.a ss.n ss.c) := bz.cell 5 _ rfl
          have n6 : wA.cell? ⟨rb, 6, none⟩ = some (.slice q.a q.n q.c) := bz.cell 6 _ rfl
          have n7 : wA.cell? ⟨rb, 7, none⟩ = some (.int .i64 z.to) := bz.cell 7 _ rfl
          have HLD := Lib.hid (fun zz : Wd (Kn wA []) => ldThing_same z sx qx ss q zz.w (hRx.stay zz.ok.1) (hQx.stay zz.ok.1) (hRn.stay zz.ok.1) (hQn.stay zz.ok.1) hsm.1 hsm.2)
          clear hRx hQx hAx hsm bz hRn hQn hz' hlt
          have qe0 := fun zz : Wd (Kn wA []) => stayCell e0 zz.ok.1
          have qe1 := fun zz : Wd (Kn wA []) => stayCell e1 zz.ok.1
          have qe2 := fun zz : Wd (Kn wA []) => stayCell e2 zz.ok.1
          have qe3 := fun zz : Wd (Kn wA []) => stayCell e3 zz.ok.1
          have qe4 := fun zz : Wd (Kn wA []) => stayCell e4 zz.ok.1
          have qe5 := fun zz : Wd (Kn wA []) => stayCell e5 zz.ok.1
          have qe6 := fun zz : Wd (Kn wA []) => stayCell e6 zz.ok.1
          have qe7 := fun zz : Wd (Kn wA []) => stayCell e7 zz.ok.1
          have qn0 := fun zz : Wd (Kn wA []) => stayCell n0 zz.ok.1
          have qn1 := fun zz : Wd (Kn wA []) => stayCell n1 zz.ok.1
          have qn2 := fun zz : Wd (Kn wA []) => stayCell n2 zz.ok.1
          have qn3 := fun zz : Wd (Kn wA []) => stayCell n3 zz.ok.1
          have qn4 := fun zz : Wd (Kn wA []) => stayCell n4 zz.ok.1
          have qn5 := fun zz : Wd (Kn wA []) => stayCell n5 zz.ok.1
          have qn6 := fun zz : Wd (Kn wA []) => stayCell n6 zz.ok.1
          have qn7 := fun zz : Wd (Kn wA []) => stayCell n7 zz.ok.1
          have qr0 := fun zz : Wd (Kn wA []) => stayCell r0 zz.ok.1
          have ne : Nonempty (Wd (Kn wA [])) := ⟨⟨_, (Kn.refl (w := wA)).drew⟩⟩
          clear e0 e1 e2 e3 e4 e5 e6 e7 n0 n1 n2 n3 n4 n5 n6 n7 r0
          go_upto_region 23 with fail
          refine wp_region_quiet (C := fun y => ∃ zz : Wd (Kn wA []), y = zz.w) (by kernel_rfl) (by kernel_rfl) ⟨⟨_, (Kn.refl (w := wA)).drew⟩, rfl⟩ ?_
          show wpQuiet _ _ _ _ [_, _, _, _, _, _, _, _, _] _
          repeat (first | go_big_quiet_step ((go_at_call 28; with_reducible exact inCls Kn.stay (HLD.out _))) | quiet_step ((go_at_call 28; with_reducible exact inCls Kn.stay (HLD.out _))))
          refine wpQuiet_nil ?_
          rintro _ ⟨⟨y9, K9⟩, rfl⟩
          have HB2 := Lib.hid (KK.out.stay K9.1).1
          clear ne K9 HLD
          go_wp2
          go_ret
          exact ⟨by simp [*], HB2.out⟩
      have hkl : k < l.length := Classical.not_not.1 hlt
      have hlt' := (ltn k l.length).1 hkl
      obtain ⟨k1, hk1⟩ : ∃ k1, k + 1 = k1 := ⟨_, rfl⟩
      have HK1 := Lib.hid hk1
      obtain ⟨wk, wk2, wk3', wk4⟩ := wkk hk1 (kin hkl l8)
      obtain ⟨sx, qx, hRx, -, hAx⟩ := PK.out.cells (i := k) (by rw [HXL.out]; exact hkl)
      have e5 : wA.cell? ⟨gx, k * 8 + 5, none⟩ = some (.slice sx.a sx.n sx.c) := hAx 5 _ rfl
      have hsn := hRx.len
      have hs4 := HS4.out k hkl
      rw [← hsn] at hs4
      have HRX := Lib.hid hRx
      have HSN := Lib.hid hsn
      obtain ⟨xa, xn, xc⟩ := sx
      dsimp only at e5 hs4 HSN
      clear hRx hAx hsn hlt hk1
      go_wp2
      go_loopw [13] (fun i wr2 => ∃ j : Nat, j ≤ xn ∧ i = .int .i64 j ∧ Below wA.heap.size wA wr2) (fun i _ => xn - (intOf i).toNat)
      case atStart => exact ⟨0, Nat.zero_le _, rfl, Below.refl _ _⟩
      case round =>
        obtain ⟨j, hj, rfl, B0⟩ := hrel
        have HB2 := Lib.hid B0
        have K2 := Lib.hid (KK.out.stay B0)
        have P2 := Lib.hid (PK.out.stay B0)
        have e5' := stayCell e5 B0
        have r0' := stayCell r0 B0
        clear B0
        by_cases hlj : ¬ j < xn
        · have hlj' : ¬ (j : Int) < (xn : Int) := fun h => hlj ((ltn j xn).2 h)
          go_wp2
          go_roundw
          case rel => exact ⟨k1, lek1 HK1.out hkl, rfl, HB.out.trans (HB2.out.mono HB.out.size)⟩
          case measure => exact mnk HK1.out hkl
        have hjl : j < xn := Classical.not_not.1 hlj
        have hlj' := (ltn j xn).1 hjl
        obtain ⟨j1, hj1⟩ : ∃ j1, j + 1 = j1 := ⟨_, rfl⟩
        have HJ1 := Lib.hid hj1
        obtain ⟨wj, wj2, wj3, wj4⟩ := wkk hj1 (s4in hjl hs4)
        have hjs : j < (x[k]'(by rw [HXL.out]; exact hkl)).slots.length := by rw [← HSN.out]; exact hjl
        obtain ⟨b2, o2, eb2, hB5⟩ := HRX.out.at (i := j) hjs
        dsimp only at eb2
        subst eb2
        obtain ⟨u, hu⟩ : ∃ u, (x[k]'(by rw [HXL.out]; exact hkl)).slots[j]'hjs = u := ⟨_, rfl⟩
        have HG := Lib.hid (show u.t = (jo : Int) + 1 → tabLive x u = false from fun h => by rw [← hu]; exact HGONE.out k j hkl hjs (by rw [hu]; exact h))
        rw [hu] at hB5
        have hB6 := hB5.stay HB2.out
        obtain ⟨ut, uv, ur, uw, uk⟩ := u
        have u0 : wr.cell? ⟨b2, o2 + j * 5, none⟩ = some (.int .i64 ut) := hB6 0 _ rfl
        have u1 : wr.cell? ⟨b2, o2 + j * 5 + 1, none⟩ = some (.int .i64 uv) := hB6 1 _ rfl
        have u2 : wr.cell? ⟨b2, o2 + j * 5 + 2, none⟩ = some (.bool ur) := hB6 2 _ rfl
        have u3 : wr.cell? ⟨b2, o2 + j * 5 + 3, none⟩ = some (.bool uw) := hB6 3 _ rfl
        have u4 : wr.cell? ⟨b2, o2 + j * 5 + 4, none⟩ = some (.bool uk) := hB6 4 _ rfl
        clear hB5 hB6 hu hlj hj1 e5 r0
        by_cases hut : ut = (jo : Int) + 1
        · have HL2 := Lib.hid (HG.out hut)
          subst hut
          have HLD := Lib.hid (fun zz : Wd (Kn wr []) => implTabLive_val' (s := ⟨some ⟨gx, 0, none⟩, l.length, cx⟩) (r := ⟨(jo : Int) + 1, uv, ur, uw, uk⟩) HL2.out zz.w (P2.out.stay zz.ok.1) (HF.out.stay (K2.out.stay zz.ok.1).1) HSX.out.1)
          go_upto_region 21 with fail
          have qu0 := fun zz : Wd (Kn wr []) => stayCell u0 zz.ok.1
          have qu1 := fun zz : Wd (Kn wr []) => stayCell u1 zz.ok.1
          have qu2 := fun zz : Wd (Kn wr []) => stayCell u2 zz.ok.1
          have qu3 := fun zz : Wd (Kn wr []) => stayCell u3 zz.ok.1
          have qu4 := fun zz : Wd (Kn wr []) => stayCell u4 zz.ok.1
          have qe5' := fun zz : Wd (Kn wr []) => stayCell e5' zz.ok.1
          have qr0' := fun zz : Wd (Kn wr []) => stayCell r0' zz.ok.1
          have ne : Nonempty (Wd (Kn wr [])) := ⟨⟨_, (Kn.refl (w := wr)).drew⟩⟩
          clear u0 u1 u2 u3 u4 e5' r0'
          refine wp_region_quiet (C := fun y => ∃ zz : Wd (Kn wr []), y = zz.w) (by kernel_rfl) (by kernel_rfl) ⟨⟨_, (Kn.refl (w := wr)).drew⟩, rfl⟩ ?_
          show wpQuiet _ _ _ _ [_, _, _, _, _, _, _, _, _, _, _, _, _, _, _, _, _, _, _, _, _, _, _, _] _
          repeat (first | go_big_quiet_step ((go_at_call 27; with_reducible exact inCls Kn.stay (HLD.out _))) | quiet_step ((go_at_call 27; with_reducible exact inCls Kn.stay (HLD.out _))))
          refine wpQuiet_nil ?_
          rintro _ ⟨⟨y9, K9⟩, rfl⟩
          have HB3 := Lib.hid (HB2.out.trans (K9.1.mono HB2.out.size))
          clear ne K9 HLD
          go_wp2
          go_roundw
          case rel => exact ⟨j1, lek1 HJ1.out hjl, rfl, HB3.out⟩
          case measure => exact mnk HJ1.out hjl
        · have hut' : (ut == (jo : Int) + 1) = false := (neqi hut).1
          clear hut u1 u2 u3 u4
          go_upto_region 21 with fail
          go_quiet (fail)
          go_wp2
          go_roundw
          case rel => exact ⟨j1, lek1 HJ1.out hjl, rfl, drewNB HB2.out _⟩
          case measure => exact mnk HJ1.out hjl
end Go.Proofs.YtbopficnajdaoaaGreatDoor
