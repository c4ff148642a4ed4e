/-
  The walk of laws.FnDoCopy.
-/
import Derived.Test.YtgpiclngkmjnpaaGreatDoorLdM
import Derived.Test.YtgpiclngkmjnpaaGreatDoorRiM
namespace Go.Proofs.YtgpiclngkmjnpaaGreatDoor
open Go.RowKit
set_option maxRecDepth 100000
set_option linter.unusedVariables false

theorem wrapk {k : Nat} (h : k < 9) : wrap64 ((k : Int) + 1) = (k : Int) + 1 ∧ IntKind.i64.wrap ((k : Int) + 1) = (k : Int) + 1 ∧ IntKind.i64.wrap (k : Int) = (k : Int) :=
  ⟨by unfold wrap64; omega, IntWalk.i64_in _ (by omega), IntWalk.i64_in _ (by omega)⟩
theorem neqk {k j : Nat} (h : ¬ k = j) : ((k : Int) == (j : Int)) = false ∧ ((k : Int) != (j : Int)) = true := by
  refine ⟨?_, ?_⟩ <;> simp <;> omega
theorem ltk (k : Nat) : k < 4 ↔ (k : Int) < 4 := by omega
theorem meas4 {k : Nat} (h : k < 4) : 4 - (intOf (.int .i64 ((k + 1 : Nat) : Int))).toNat < 4 - (intOf (.int .i64 (k : Int))).toNat := by
  simp only [intOf]; omega
theorem rem_marks64 (n : Int) (h : 0 ≤ n ∧ n ≤ 99) : (Int.tmod n 2 == 1) = mk1 n ∧ (Int.tmod (wrap64 (Int.tdiv n 2)) 2 == 1) = mk2 n ∧ (Int.tmod (wrap64 (Int.tdiv n 4)) 2 == 1) = mk4 n := by
  have key : ∀ k : Fin 100, (Int.tmod (k.val : Int) 2 == 1) = mk1 (k.val : Int) ∧ (Int.tmod (wrap64 (Int.tdiv (k.val : Int) 2)) 2 == 1) = mk2 (k.val : Int) ∧ (Int.tmod (wrap64 (Int.tdiv (k.val : Int) 4)) 2 == 1) = mk4 (k.val : Int) := by decide +kernel
  have := key ⟨n.toNat, by omega⟩
  have e : ((n.toNat : Nat) : Int) = n := by omega
  simpa only [e] using this
set_option maxHeartbeats 16000000 in
theorem walk_FnDoCopy (a0 : Option Addr) (len0 cap0 : Nat) (z0 : List Int) (w : World) (hKF : KF w) (hET : ET w) (w0 : IsRow .u8 w a0 len0 cap0 z0) :
    Calls Tryz.prog 8 #[.slice a0 len0 cap0] w fun e w' => e = .returned (.bool true) ∧ Below w.heap.size w w' := by
  by_cases g0 : (1048576 : Int) < (len0 : Int)
  · go_enter Tryz.func8, Tryz.ntmps8
    go_wp2
    go_ret
    exact ⟨rfl, Below.refl _ _⟩
  have W0 := Lib.hid w0
  have HF := Lib.hid hKF
  have HE := Lib.hid hET
  clear w0 hKF hET
  go_enter Tryz.func8, Tryz.ntmps8
  go_wp2_with fail
  refine (drawCD_any a0 len0 cap0 z0 _ W0.out).mono ?_
  rintro e y0 ⟨g, c, l, q, rfl, hT, l3, l8, hzs, hb⟩
  have K0 := Lib.hid ((Kn.start hb).new 25 (C5.cs q))
  have T0 := Lib.hid (hT.stay ((Below.refl _ _).alloc (Nat.le_refl _) (.cells (C5.cs q) 25)))
  have HZS := Lib.hid hzs
  have hz : l.length ≤ 1048576 := by omega
  clear W0 hb hT hzs
  obtain ⟨x, ans, hv⟩ : ∃ x ans, callV l q = (x, ans) := ⟨_, _, rfl⟩
  have HV := Lib.hid hv
  have HSX := Lib.hid (call_sm hv)
  clear hv
  go_wp2_with fail
  refine (specDo_val (s := ⟨some ⟨g, 0, none⟩, l.length, c⟩) HV.out _ T0.out hz HZS.out).mono ?_
  rintro e y1 ⟨s1, ts1, rfl, t1, hm1, hb⟩
  have K1 := Lib.hid (K0.out.stay hb)
  have T1 := Lib.hid (T0.out.stay hb)
  have X1 := Lib.hid (show HasT y1 s1 x from hm1 ▸ t1.hasT)
  clear hb t1 hm1 K0 T0
  have c0 := K1.out.c (b := y0.heap.size) (T := 25) (vs := C5.cs q) (by simp) 0 _ rfl
  have c1 := K1.out.c (b := y0.heap.size) (T := 25) (vs := C5.cs q) (by simp) 1 _ rfl
  have c2 := K1.out.c (b := y0.heap.size) (T := 25) (vs := C5.cs q) (by simp) 2 _ rfl
  have c3 := K1.out.c (b := y0.heap.size) (T := 25) (vs := C5.cs q) (by simp) 3 _ rfl
  have c4 := K1.out.c (b := y0.heap.size) (T := 25) (vs := C5.cs q) (by simp) 4 _ rfl
  go_wp2_with fail
  refine (implDo_val (s := ⟨some ⟨g, 0, none⟩, l.length, c⟩) HV.out _ T1.out (HF.out.stay K1.out.1) (HE.out.stay K1.out.1) hz).mono ?_
  rintro e y2 ⟨s2, ts2, rfl, t2, hm2, hb⟩
  have K2 := Lib.hid (K1.out.stay hb)
  have T2 := Lib.hid (T1.out.stay hb)
  have X2 := Lib.hid (X1.out.stay hb)
  have P2 := Lib.hid (show HasT y2 s2 x from hm2 ▸ t2.hasT)
  have HA2 := Lib.hid (show 0 < x.length → ∃ gx, s2.a = some ⟨gx, 0, none⟩ from fun h => by
    obtain ⟨gx, cur, e, -⟩ := t2.1.form (by have := congrArg List.length hm2; simp at this; omega)
    exact ⟨gx, e⟩)
  clear hb t2 hm2 K1 T1 X1 c0 c1 c2 c3 c4
  go_wp2_with fail
  refine (ldTable_same x s2 s1 _ P2.out X2.out HSX.out.1 HSX.out.2).mono ?_
  rintro e y3 ⟨rfl, hb⟩
  have K3 := Lib.hid (K2.out.stay hb)
  have T3 := Lib.hid (T2.out.stay hb)
  have X3 := Lib.hid (X2.out.stay hb)
  have P3 := Lib.hid (P2.out.stay hb)
  clear hb K2 T2 X2 P2
  have c0 := K3.out.c (b := y0.heap.size) (T := 25) (vs := C5.cs q) (by simp) 0 _ rfl
  have c1 := K3.out.c (b := y0.heap.size) (T := 25) (vs := C5.cs q) (by simp) 1 _ rfl
  have c2 := K3.out.c (b := y0.heap.size) (T := 25) (vs := C5.cs q) (by simp) 2 _ rfl
  have c3 := K3.out.c (b := y0.heap.size) (T := 25) (vs := C5.cs q) (by simp) 3 _ rfl
  have c4 := K3.out.c (b := y0.heap.size) (T := 25) (vs := C5.cs q) (by simp) 4 _ rfl
  go_wp2_with fail
  refine (ldCan_any l g l.length c q _ T3.out rfl (HF.out.stay K3.out.1) hz).mono ?_
  rintro e y4 ⟨v, rfl, hv, hb⟩
  have HVV := Lib.hid hv
  have K4 := Lib.hid (K3.out.stay hb)
  have T4 := Lib.hid (T3.out.stay hb)
  have X4 := Lib.hid (X3.out.stay hb)
  have P4 := Lib.hid (P3.out.stay hb)
  clear hb hv K3 T3 X3 P3 c0 c1 c2 c3 c4
  cases v
  · go_wp2_with fail
    refine (ldTable_same x s2 s1 _ P4.out X4.out HSX.out.1 HSX.out.2).mono ?_
    rintro e y5 ⟨rfl, hb⟩
    have HB := Lib.hid (K4.out.stay hb).1
    clear hb
    go_wp2
    go_ret
    exact ⟨rfl, HB.out⟩
  have HO := Lib.hid (HVV.out.1 rfl)
  have HXA := Lib.hid (show x = (doV l q).1 ∧ ans = (doV l q).2 by
    have := HV.out
    rw [callV_ok HO.out] at this
    rw [this]; exact ⟨rfl, rfl⟩)
  have hxl : x.length = l.length := by rw [HXA.out.1, do_len]
  obtain ⟨gx, hs2⟩ := HA2.out (by omega)
  have hsn : s2.n = l.length := by rw [P4.out.1, hxl]
  have HXL := Lib.hid hxl
  obtain ⟨s2a, s2n, cx⟩ := s2
  dsimp only at hs2 hsn
  subst hs2 hsn
  obtain ⟨jr, hjr, hcr, hth, hkr⟩ := HO.out.run
  have hbd := C5.bd HO.out.2
  obtain ⟨ck, cr, ca, cbb, cn⟩ := q
  dsimp only at *
  subst hcr
  obtain ⟨ja, rfl⟩ : ∃ ja : Nat, ca = ja := ⟨ca.toNat, by omega⟩
  obtain ⟨jb, rfl⟩ : ∃ jb : Nat, cbb = jb := ⟨cbb.toNat, by omega⟩
  have hja : ja < 4 := by omega
  have hjb : jb < 4 := by omega
  have hjr' : (jr : Int) < (l.length : Int) := by omega
  have hja' : (ja : Int) < 4 := by omega
  have hjb' : (jb : Int) < 4 := by omega
  have wr : wrap64 ((jr : Int) + 1 - 1) = (jr : Int) := by unfold wrap64; omega
  have wr2 : IntKind.i64.wrap (jr : Int) = (jr : Int) := IntWalk.i64_in _ (by omega)
  have HBD := Lib.hid hbd
  have HTH := Lib.hid hth
  have HKR := Lib.hid hkr
  clear hbd hth hkr hxl HA2 HV HVV X4 HZS
  have c0 := K4.out.c (b := y0.heap.size) (T := 25) (vs := C5.cs ⟨ck, (jr : Int) + 1, (ja : Int), (jb : Int), cn⟩) (by simp) 0 _ rfl
  have c1 := K4.out.c (b := y0.heap.size) (T := 25) (vs := C5.cs ⟨ck, (jr : Int) + 1, (ja : Int), (jb : Int), cn⟩) (by simp) 1 _ rfl
  have c2 := K4.out.c (b := y0.heap.size) (T := 25) (vs := C5.cs ⟨ck, (jr : Int) + 1, (ja : Int), (jb : Int), cn⟩) (by simp) 2 _ rfl
  have c3 := K4.out.c (b := y0.heap.size) (T := 25) (vs := C5.cs ⟨ck, (jr : Int) + 1, (ja : Int), (jb : Int), cn⟩) (by simp) 3 _ rfl
  have c4 := K4.out.c (b := y0.heap.size) (T := 25) (vs := C5.cs ⟨ck, (jr : Int) + 1, (ja : Int), (jb : Int), cn⟩) (by simp) 4 _ rfl
  by_cases hk1 : ¬ ck = 3
  · have hk1' : (ck == 3) = false := by simpa using hk1
    have hk1'' : (ck != 3) = true := by simpa using hk1
    clear hk1
    go_wp2
    go_ret
    exact ⟨rfl, K4.out.1⟩
  obtain rfl : ck = 3 := Classical.not_not.1 hk1
  clear hk1
  obtain ⟨jr1, ja1, hjr1, rb, ro, sc, qs, er1, ea1, -, eth1, hA, hB, -⟩ := slot_at T4.out HO.out.1 HO.out.2
  obtain rfl : jr = jr1 := by dsimp only at er1; omega
  obtain rfl : ja = ja1 := by dsimp only at ea1; omega
  obtain ⟨r, hr⟩ : ∃ r, rOf l ⟨3, (jr : Int) + 1, (ja : Int), (jb : Int), cn⟩ = r := ⟨_, rfl⟩
  have hBr : At y4 rb (ro + ja * 5) r.cs := by rw [← hr]; exact hB
  obtain ⟨rt, rv, rr, rw_, rk⟩ := r
  have HR := Lib.hid hr
  have f5 : y4.cell? ⟨g, jr * 8 + 5, none⟩ = some (.slice (some ⟨rb, ro, none⟩) 4 sc) := hA 5 _ rfl
  have g0' : y4.cell? ⟨rb, ro + ja * 5, none⟩ = some (.int .i64 rt) := hBr 0 _ rfl
  have g1 : y4.cell? ⟨rb, ro + ja * 5 + 1, none⟩ = some (.int .i64 rv) := hBr 1 _ rfl
  have g2 : y4.cell? ⟨rb, ro + ja * 5 + 2, none⟩ = some (.bool rr) := hBr 2 _ rfl
  have g3 : y4.cell? ⟨rb, ro + ja * 5 + 3, none⟩ = some (.bool rw_) := hBr 3 _ rfl
  have g4 : y4.cell? ⟨rb, ro + ja * 5 + 4, none⟩ = some (.bool rk) := hBr 4 _ rfl
  have hbl1 := cell_lt f5
  have hbl2 := cell_lt g0'
  have hbl3 := cell_lt c0
  clear hA hB hBr hr er1 ea1 eth1
  go_upto_region 10 with fail
  go_region
  have K5 := Lib.hid ((K4.out.new 42 (R5.cs ⟨rt, rv, rr, rw_, rk⟩)).drew)
  have B5 := Lib.hid (((Below.refl y4.heap.size y4).alloc (Nat.le_refl _) (.cells (R5.cs ⟨rt, rv, rr, rw_, rk⟩) 42)).drew)
  have T5 := Lib.hid (T4.out.stay B5.out)
  have P5 := Lib.hid (P4.out.stay B5.out)
  obtain ⟨Y, hY⟩ : ∃ Y, (y4.alloc (.cells (R5.cs ⟨rt, rv, rr, rw_, rk⟩) 42)).drew = Y := ⟨_, rfl⟩
  rw [hY] at K5 B5 T5 P5 ⊢
  clear hY K4 T4 P4 f5 g0' g1 g2 g3 g4 c0 c1 c2 c3 c4
  have hdf := do_copy HO.out rfl hjr rfl
  have hxr : x[jr]'(by rw [HXL.out]; exact hjr) = { l[jr]'hjr with num := 0, slots := (l[jr]'hjr).slots.set jb (lessR ⟨rt, rv, rr, rw_, rk⟩ (mk1 cn) (mk2 cn) (mk4 cn)) } := by
    rw [get_of HXA.out.1 (i := jr) (by rw [HXL.out]; exact hjr), hdf.2, HR.out]
    rfl
  have HR4 := Lib.hid (run4 HO.out hjr rfl)
  have HXR := Lib.hid hxr
  have HX4 := Lib.hid (show (x[jr]'(by rw [HXL.out]; exact hjr)).slots.length = 4 by rw [hxr, List.length_set]; exact HR4.out)
  have ha0 : ans = 0 := HXA.out.2.trans hdf.1
  subst ha0
  clear hdf hxr
  obtain ⟨got, hgot⟩ : ∃ got, lessR ⟨rt, rv, rr, rw_, rk⟩ (mk1 cn) (mk2 cn) (mk4 cn) = got := ⟨_, rfl⟩
  have HXS := Lib.hid (show ∀ (k : Nat) (hk : k < 4), (x[jr]'(by rw [HXL.out]; exact hjr)).slots[k]'(by rw [HX4.out]; exact hk) = if jb = k then got else (l[jr]'hjr).slots[k]'(by rw [HR4.out]; exact hk) from fun k hk => by
    simp only [HXR.out, List.getElem_set, hgot])
  have HG := Lib.hid (show lessV rt rv rr rw_ rk (Int.tmod cn 2 == 1) (Int.tmod (wrap64 (Int.tdiv cn 2)) 2 == 1) (Int.tmod (wrap64 (Int.tdiv cn 4)) 2 == 1) = got.val by
    have h := rem_marks64 cn HBD.out.2.2.2.2
    have h2 : (Int.tmod (wrap64 (Int.tdiv cn 2)) 2 == 1) = mk2 cn := h.2.1
    have h4 : (Int.tmod (wrap64 (Int.tdiv cn 4)) 2 == 1) = mk4 cn := h.2.2
    rw [h.1, h2, h4, ← hgot]; rfl)
  clear hgot
  obtain ⟨gt, gv, gr, gw, gk⟩ := got
  have HOKR := Lib.hid (show okR rt rv rr rw_ rk = true by have := (rOf_in HO.out).1; rw [HR.out] at this; exact this)
  have HIN := Lib.hid (less_in HOKR.out HG.out)
  go_wp2
  go_loopw [10] (fun i wr => ∃ k : Nat, k ≤ 4 ∧ i = .int .i64 k ∧ Below Y.heap.size Y wr) (fun i _ => 4 - (intOf i).toNat)
  case atStart => exact ⟨0, by omega, rfl, Below.refl _ _⟩
  case round =>
    as_aux_lemma =>
      obtain ⟨k, hk, rfl, B0⟩ := hrel
      have HB := Lib.hid B0
      have KK := Lib.hid (K5.out.stay B0)
      have TK := Lib.hid (T5.out.stay B0)
      have PK := Lib.hid (P5.out.stay B0)
      clear B0
      have c1 := KK.out.c (b := y0.heap.size) (T := 25) (vs := C5.cs ⟨3, (jr : Int) + 1, (ja : Int), (jb : Int), cn⟩) (by simp) 1 _ rfl
      have c3 := KK.out.c (b := y0.heap.size) (T := 25) (vs := C5.cs ⟨3, (jr : Int) + 1, (ja : Int), (jb : Int), cn⟩) (by simp) 3 _ rfl
      have c4 := KK.out.c (b := y0.heap.size) (T := 25) (vs := C5.cs ⟨3, (jr : Int) + 1, (ja : Int), (jb : Int), cn⟩) (by simp) 4 _ rfl
      have hlc := cell_lt c1
      by_cases hlt : ¬ k < 4
      · as_aux_lemma =>
          have hlt' : ¬ (k : Int) < 4 := fun h => hlt ((ltk k).2 h)
          obtain ⟨rby, roy, scy, fsy, hBy⟩ := slot_get PK.out (by rw [HXL.out]; exact hjr) HX4.out hjb
          rw [show (x[jr]'(by rw [HXL.out]; exact hjr)).slots[jb]'(by rw [HX4.out]; exact hjb) = ⟨gt, gv, gr, gw, gk⟩ by rw [HXS.out jb hjb, if_pos rfl]] at hBy
          have by0 : wr.cell? ⟨rby, roy + jb * 5, none⟩ = some (.int .i64 gt) := hBy 0 _ rfl
          have by1 : wr.cell? ⟨rby, roy + jb * 5 + 1, none⟩ = some (.int .i64 gv) := hBy 1 _ rfl
          have by2 : wr.cell? ⟨rby, roy + jb * 5 + 2, none⟩ = some (.bool gr) := hBy 2 _ rfl
          have by3 : wr.cell? ⟨rby, roy + jb * 5 + 3, none⟩ = some (.bool gw) := hBy 3 _ rfl
          have by4 : wr.cell? ⟨rby, roy + jb * 5 + 4, none⟩ = some (.bool gk) := hBy 4 _ rfl
          have ly1 := cell_lt fsy
          have ly2 := cell_lt by0
          clear hBy
          go_upto_region 16 with fail
          go_region
          obtain ⟨V, hYy⟩ : ∃ Y', (wr.alloc (.cells (R5.cs ⟨gt, gv, gr, gw, gk⟩) 42)).drew = Y' := ⟨_, rfl⟩
          try rw [hYy]
          have Ny := Lib.hid (show Box V wr.heap.size 42 (R5.cs ⟨gt, gv, gr, gw, gk⟩) from hYy ▸ (Box.fresh wr 42 (R5.cs ⟨gt, gv, gr, gw, gk⟩)).drew)
          have By := Lib.hid (show Below wr.heap.size wr V from hYy ▸ ((Below.refl _ _).alloc (Nat.le_refl _) _).drew)
          clear hYy fsy by0 by1 by2 by3 by4
          have KV := Lib.hid (KK.out.stay By.out)
          have m0 := Ny.out.cell 0 _ rfl
          have m1 := Ny.out.cell 1 _ rfl
          have m2 := Ny.out.cell 2 _ rfl
          have m3 := Ny.out.cell 3 _ rfl
          have m4 := Ny.out.cell 4 _ rfl
          have r0 := KV.out.c (b := y4.heap.size) (T := 42) (vs := R5.cs ⟨rt, rv, rr, rw_, rk⟩) (by simp) 0 _ rfl
          have r1 := KV.out.c (b := y4.heap.size) (T := 42) (vs := R5.cs ⟨rt, rv, rr, rw_, rk⟩) (by simp) 1 _ rfl
          have r2 := KV.out.c (b := y4.heap.size) (T := 42) (vs := R5.cs ⟨rt, rv, rr, rw_, rk⟩) (by simp) 2 _ rfl
          have r3 := KV.out.c (b := y4.heap.size) (T := 42) (vs := R5.cs ⟨rt, rv, rr, rw_, rk⟩) (by simp) 3 _ rfl
          have r4 := KV.out.c (b := y4.heap.size) (T := 42) (vs := R5.cs ⟨rt, rv, rr, rw_, rk⟩) (by simp) 4 _ rfl
          have n4 := KV.out.c (b := y0.heap.size) (T := 25) (vs := C5.cs ⟨3, (jr : Int) + 1, (ja : Int), (jb : Int), cn⟩) (by simp) 4 _ rfl
          have HLS := Lib.hid (show ∀ zz : Wd (Kn V []), Calls Tryz.prog 25 #[rgt rt rv rr rw_ rk, .bool (Int.tmod cn 2 == 1), .bool (Int.tmod (wrap64 (Int.tdiv cn 2)) 2 == 1), .bool (Int.tmod (wrap64 (Int.tdiv cn 4)) 2 == 1)] zz.w (fun e y => e = .returned (rgt gt gv gr gw gk) ∧ Below zz.w.heap.size zz.w y) from fun zz => (implLess_any rt rv rr rw_ rk _ _ _ zz.w).mono fun e y h => ⟨by rw [h.1, HG.out], h.2⟩)
          have HLI := Lib.hid (fun zz : Wd (Kn V []) => implRIn_val HIN.out zz.w)
          clear c1 c3 c4
          as_aux_lemma =>
            have qm0 := fun zz : Wd (Kn V []) => stayCell m0 zz.ok.1
            have qm1 := fun zz : Wd (Kn V []) => stayCell m1 zz.ok.1
            have qm2 := fun zz : Wd (Kn V []) => stayCell m2 zz.ok.1
            have qm3 := fun zz : Wd (Kn V []) => stayCell m3 zz.ok.1
            have qm4 := fun zz : Wd (Kn V []) => stayCell m4 zz.ok.1
            have qr0 := fun zz : Wd (Kn V []) => stayCell r0 zz.ok.1
            have qr1 := fun zz : Wd (Kn V []) => stayCell r1 zz.ok.1
            have qr2 := fun zz : Wd (Kn V []) => stayCell r2 zz.ok.1
            have qr3 := fun zz : Wd (Kn V []) => stayCell r3 zz.ok.1
            have qr4 := fun zz : Wd (Kn V []) => stayCell r4 zz.ok.1
            have qn4 := fun zz : Wd (Kn V []) => stayCell n4 zz.ok.1
            have ne : Nonempty (Wd (Kn V [])) := ⟨⟨_, (Kn.refl (w := V)).drew⟩⟩
            clear m0 m1 m2 m3 m4 r0 r1 r2 r3 r4 n4
            go_upto_region 17 with fail
            refine wp_region_quiet (C := fun y => ∃ zz : Wd (Kn V []), y = zz.w) (by kernel_rfl) (by kernel_rfl) ⟨⟨_, (Kn.refl (w := V)).drew⟩, rfl⟩ ?_
            show wpQuiet _ _ _ _ [_, _, _, _, _, _, _, _, _, _, _, _, _, _, _, _, _, _, _, _, _, _, _, _, _, _, _, _] _
            repeat (first | go_big_quiet_step (((first | (go_at_call 25; with_reducible exact inCls Kn.stay (HLS.out _)) | (go_at_call 26; with_reducible exact inCls Kn.stay (HLI.out _))))) | quiet_step (((first | (go_at_call 25; with_reducible exact inCls Kn.stay (HLS.out _)) | (go_at_call 26; with_reducible exact inCls Kn.stay (HLI.out _))))))
            refine wpQuiet_nil ?_
            rintro _ ⟨⟨y9, K9⟩, rfl⟩
            have HB2 := Lib.hid (KV.out.1.trans (K9.1.mono KV.out.1.size))
            clear ne qm0 qm1 qm2 qm3 qm4 qr0 qr1 qr2 qr3 qr4 qn4 K9 HLS HLI
            go_wp2
            go_ret
            exact ⟨rfl, HB2.out⟩
      have hkl : k < 4 := Classical.not_not.1 hlt
      have hlt' := (ltk k).1 hkl
      obtain ⟨wk, wk2, wk3⟩ := wrapk (Nat.lt_of_lt_of_le hkl (by decide))
      by_cases hkn : k = jb
      · as_aux_lemma =>
          subst hkn
          go_upto_region 14 with fail
          go_quiet (fail)
          go_wp2
          go_roundw
          case rel => exact ⟨k + 1, hkl, by go_num, drewNB HB.out _⟩
          case measure => (have hms := meas4 hkl; simp only [intOf] at hms ⊢; exact hms)
      obtain ⟨hne, hne2⟩ := neqk hkn
      obtain ⟨v, hv⟩ : ∃ v, (l[jr]'hjr).slots[k]'(by rw [HR4.out]; exact hkl) = v := ⟨_, rfl⟩
      have HV := Lib.hid hv
      have HVX := Lib.hid (show (x[jr]'(by rw [HXL.out]; exact hjr)).slots[k]'(by rw [HX4.out]; exact hkl) = v by rw [HXS.out k hkl, if_neg (fun e => hkn e.symm), hv])
      clear hv
      obtain ⟨vt, vv, vr, vw, vk⟩ := v
      obtain ⟨rbx, rox, scx, fsx, hBx⟩ := slot_get PK.out (by rw [HXL.out]; exact hjr) HX4.out hkl
      rw [HVX.out] at hBx
      have bx0 : wr.cell? ⟨rbx, rox + k * 5, none⟩ = some (.int .i64 vt) := hBx 0 _ rfl
      have bx1 : wr.cell? ⟨rbx, rox + k * 5 + 1, none⟩ = some (.int .i64 vv) := hBx 1 _ rfl
      have bx2 : wr.cell? ⟨rbx, rox + k * 5 + 2, none⟩ = some (.bool vr) := hBx 2 _ rfl
      have bx3 : wr.cell? ⟨rbx, rox + k * 5 + 3, none⟩ = some (.bool vw) := hBx 3 _ rfl
      have bx4 : wr.cell? ⟨rbx, rox + k * 5 + 4, none⟩ = some (.bool vk) := hBx 4 _ rfl
      clear hBx
      obtain ⟨rbt, rot, sct, fst, hBt⟩ := slot_get TK.out hjr HR4.out hkl
      rw [HV.out] at hBt
      have bt0 : wr.cell? ⟨rbt, rot + k * 5, none⟩ = some (.int .i64 vt) := hBt 0 _ rfl
      have bt1 : wr.cell? ⟨rbt, rot + k * 5 + 1, none⟩ = some (.int .i64 vv) := hBt 1 _ rfl
      have bt2 : wr.cell? ⟨rbt, rot + k * 5 + 2, none⟩ = some (.bool vr) := hBt 2 _ rfl
      have bt3 : wr.cell? ⟨rbt, rot + k * 5 + 3, none⟩ = some (.bool vw) := hBt 3 _ rfl
      have bt4 : wr.cell? ⟨rbt, rot + k * 5 + 4, none⟩ = some (.bool vk) := hBt 4 _ rfl
      clear hBt
      go_upto_region 14 with fail
      go_quiet (fail)
      go_wp2
      go_roundw
      case rel => exact ⟨k + 1, hkl, by go_num, drewNB HB.out _⟩
      case measure => (have hms := meas4 hkl; simp only [intOf] at hms ⊢; exact hms)
end Go.Proofs.YtgpiclngkmjnpaaGreatDoor
