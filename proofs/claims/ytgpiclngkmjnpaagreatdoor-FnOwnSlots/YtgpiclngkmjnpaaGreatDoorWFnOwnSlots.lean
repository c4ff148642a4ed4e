/-
  The walk of laws.FnOwnSlots.
-/
import Derived.Test.YtgpiclngkmjnpaaGreatDoorLdM
namespace Go.Proofs.YtgpiclngkmjnpaaGreatDoor
open Go.RowKit
set_option maxRecDepth 100000
set_option linter.unusedVariables false

set_option maxHeartbeats 16000000 in
theorem walk_FnOwnSlots (a0 : Option Addr) (len0 cap0 : Nat) (z0 : List Int) (w : World) (hKF : KF w) (hET : ET w) (w0 : IsRow .u8 w a0 len0 cap0 z0) :
    Calls Tryz.prog 12 #[.slice a0 len0 cap0] w fun e w' => e = .returned (.bool true) ∧ Below w.heap.size w w' := by
  by_cases g0 : (1048576 : Int) < (len0 : Int)
  · go_enter Tryz.func12, Tryz.ntmps12
    go_wp2
    go_ret
    exact ⟨rfl, Below.refl _ _⟩
  have W0 := Lib.hid w0
  have HF := Lib.hid hKF
  have HE := Lib.hid hET
  clear w0 hKF hET
  go_enter Tryz.func12, Tryz.ntmps12
  go_wp2_with fail
  refine (drawCD_any a0 len0 cap0 z0 _ W0.out).mono ?_
  rintro e y0 ⟨g, c, l, q, rfl, hT, l3, l8, hzs, hb⟩
  have K0 := Lib.hid ((Kn.start hb).new 25 (C5.cs q))
  have T0 := Lib.hid (hT.stay ((Below.refl _ _).alloc (Nat.le_refl _) (.cells (C5.cs q) 25)))
  have HZS := Lib.hid hzs
  have hz : l.length ≤ 1048576 := by omega
  clear W0 hb hT hzs
  obtain ⟨x, ans, hv⟩ : ∃ x ans, callV l q = (x, ans) := ⟨_, _, rfl⟩
  have HV := Lib.hid hv
  have HSX := Lib.hid (call_sm hv)
  clear hv
  go_wp2_with fail
  refine (specDo_val (s := ⟨some ⟨g, 0, none⟩, l.length, c⟩) HV.out _ T0.out hz HZS.out).mono ?_
  rintro e y1 ⟨s1, ts1, rfl, t1, hm1, hb⟩
  have K1 := Lib.hid (K0.out.stay hb)
  have T1 := Lib.hid (T0.out.stay hb)
  have X1 := Lib.hid (show HasT y1 s1 x from hm1 ▸ t1.hasT)
  clear hb t1 hm1 K0 T0
  have c0 := K1.out.c (b := y0.heap.size) (T := 25) (vs := C5.cs q) (by simp) 0 _ rfl
  have c1 := K1.out.c (b := y0.heap.size) (T := 25) (vs := C5.cs q) (by simp) 1 _ rfl
  have c2 := K1.out.c (b := y0.heap.size) (T := 25) (vs := C5.cs q) (by simp) 2 _ rfl
  have c3 := K1.out.c (b := y0.heap.size) (T := 25) (vs := C5.cs q) (by simp) 3 _ rfl
  have c4 := K1.out.c (b := y0.heap.size) (T := 25) (vs := C5.cs q) (by simp) 4 _ rfl
  go_wp2_with fail
  refine (implDo_val (s := ⟨some ⟨g, 0, none⟩, l.length, c⟩) HV.out _ T1.out (HF.out.stay K1.out.1) (HE.out.stay K1.out.1) hz).mono ?_
  rintro e y2 ⟨s2, ts2, rfl, t2, hm2, hb⟩
  have K2 := Lib.hid (K1.out.stay hb)
  have T2 := Lib.hid (T1.out.stay hb)
  have X2 := Lib.hid (X1.out.stay hb)
  have P2 := Lib.hid (show HasT y2 s2 x from hm2 ▸ t2.hasT)
  have HA2 := Lib.hid (show 0 < x.length → ∃ gx, s2.a = some ⟨gx, 0, none⟩ from fun h => by
    obtain ⟨gx, cur, e, -⟩ := t2.1.form (by have := congrArg List.length hm2; simp at this; omega)
    exact ⟨gx, e⟩)
  clear hb t2 hm2 K1 T1 X1 c0 c1 c2 c3 c4
  go_wp2_with fail
  refine (ldTable_same x s2 s1 _ P2.out X2.out HSX.out.1 HSX.out.2).mono ?_
  rintro e y3 ⟨rfl, hb⟩
  have K3 := Lib.hid (K2.out.stay hb)
  have T3 := Lib.hid (T2.out.stay hb)
  have X3 := Lib.hid (X2.out.stay hb)
  have P3 := Lib.hid (P2.out.stay hb)
  clear hb K2 T2 X2 P2
  have c0 := K3.out.c (b := y0.heap.size) (T := 25) (vs := C5.cs q) (by simp) 0 _ rfl
  have c1 := K3.out.c (b := y0.heap.size) (T := 25) (vs := C5.cs q) (by simp) 1 _ rfl
  have c2 := K3.out.c (b := y0.heap.size) (T := 25) (vs := C5.cs q) (by simp) 2 _ rfl
  have c3 := K3.out.c (b := y0.heap.size) (T := 25) (vs := C5.cs q) (by simp) 3 _ rfl
  have c4 := K3.out.c (b := y0.heap.size) (T := 25) (vs := C5.cs q) (by simp) 4 _ rfl
  go_wp2_with fail
  refine (ldCan_any l g l.length c q _ T3.out rfl (HF.out.stay K3.out.1) hz).mono ?_
  rintro e y4 ⟨v, rfl, hv, hb⟩
  have HVV := Lib.hid hv
  have K4 := Lib.hid (K3.out.stay hb)
  have T4 := Lib.hid (T3.out.stay hb)
  have X4 := Lib.hid (X3.out.stay hb)
  have P4 := Lib.hid (P3.out.stay hb)
  clear hb hv K3 T3 X3 P3 c0 c1 c2 c3 c4
  cases v
  · go_wp2_with fail
    refine (ldTable_same x s2 s1 _ P4.out X4.out HSX.out.1 HSX.out.2).mono ?_
    rintro e y5 ⟨rfl, hb⟩
    have HB := Lib.hid (K4.out.stay hb).1
    clear hb
    go_wp2
    go_ret
    exact ⟨rfl, HB.out⟩
  have HO := Lib.hid (HVV.out.1 rfl)
  have HXA := Lib.hid (show x = (doV l q).1 ∧ ans = (doV l q).2 by
    have := HV.out
    rw [callV_ok HO.out] at this
    rw [this]; exact ⟨rfl, rfl⟩)
  have hxl : x.length = l.length := by rw [HXA.out.1, do_len]
  obtain ⟨gx, hs2⟩ := HA2.out (by omega)
  have hsn : s2.n = l.length := by rw [P4.out.1, hxl]
  have HXL := Lib.hid hxl
  obtain ⟨s2a, s2n, cx⟩ := s2
  dsimp only at hs2 hsn
  subst hs2 hsn
  obtain ⟨jr, hjr, hcr, hth, hkr⟩ := HO.out.run
  have hbd := C5.bd HO.out.2
  obtain ⟨ck, cr, ca, cbb, cn⟩ := q
  dsimp only at *
  subst hcr
  obtain ⟨ja, rfl⟩ : ∃ ja : Nat, ca = ja := ⟨ca.toNat, by omega⟩
  obtain ⟨jb, rfl⟩ : ∃ jb : Nat, cbb = jb := ⟨cbb.toNat, by omega⟩
  have hja : ja < 4 := by omega
  have hjb : jb < 4 := by omega
  have hjr' : (jr : Int) < (l.length : Int) := by omega
  have hja' : (ja : Int) < 4 := by omega
  have hjb' : (jb : Int) < 4 := by omega
  have wr : wrap64 ((jr : Int) + 1 - 1) = (jr : Int) := by unfold wrap64; omega
  have wr2 : IntKind.i64.wrap (jr : Int) = (jr : Int) := IntWalk.i64_in _ (by omega)
  have HBD := Lib.hid hbd
  have HTH := Lib.hid hth
  have HKR := Lib.hid hkr
  clear hbd hth hkr hxl HA2 HV HVV X4 HZS
  have c0 := K4.out.c (b := y0.heap.size) (T := 25) (vs := C5.cs ⟨ck, (jr : Int) + 1, (ja : Int), (jb : Int), cn⟩) (by simp) 0 _ rfl
  have c1 := K4.out.c (b := y0.heap.size) (T := 25) (vs := C5.cs ⟨ck, (jr : Int) + 1, (ja : Int), (jb : Int), cn⟩) (by simp) 1 _ rfl
  have c2 := K4.out.c (b := y0.heap.size) (T := 25) (vs := C5.cs ⟨ck, (jr : Int) + 1, (ja : Int), (jb : Int), cn⟩) (by simp) 2 _ rfl
  have c3 := K4.out.c (b := y0.heap.size) (T := 25) (vs := C5.cs ⟨ck, (jr : Int) + 1, (ja : Int), (jb : Int), cn⟩) (by simp) 3 _ rfl
  have c4 := K4.out.c (b := y0.heap.size) (T := 25) (vs := C5.cs ⟨ck, (jr : Int) + 1, (ja : Int), (jb : Int), cn⟩) (by simp) 4 _ rfl
  go_wp2
  go_loopw [9] (fun i wr => ∃ k : Nat, k ≤ l.length ∧ i = .int .i64 k ∧ Below y4.heap.size y4 wr) (fun i _ => l.length - (intOf i).toNat)
  case atStart => exact ⟨0, by omega, rfl, Below.refl _ _⟩
  case round =>
    obtain ⟨k, hk, rfl, B0⟩ := hrel
    have HB := Lib.hid B0
    have KK := Lib.hid (K4.out.stay B0)
    have TK := Lib.hid (T4.out.stay B0)
    have PK := Lib.hid (P4.out.stay B0)
    clear B0 c0 c1 c2 c3 c4
    by_cases hlt : ¬ k < l.length
    · have hlt' : ¬ (k : Int) < (l.length : Int) := by omega
      go_wp2
      go_ret
      exact ⟨by simp, KK.out.1⟩
    have hkl : k < l.length := by omega
    have hlt' : (k : Int) < (l.length : Int) := by omega
    have wk : wrap64 ((k : Int) + 1) = (k : Int) + 1 := by unfold wrap64; omega
    have wk2 : IntKind.i64.wrap ((k : Int) + 1) = (k : Int) + 1 := IntWalk.i64_in _ (by omega)
    have wk3 : IntKind.i64.wrap (k : Int) = (k : Int) := IntWalk.i64_in _ (by omega)
    have c1 := KK.out.c (b := y0.heap.size) (T := 25) (vs := C5.cs ⟨ck, (jr : Int) + 1, (ja : Int), (jb : Int), cn⟩) (by simp) 1 _ rfl
    by_cases hkj : k = jr
    · subst hkj
      go_upto_region 11 with fail
      go_quiet (fail)
      go_wp2
      go_roundw
      case rel => exact ⟨k + 1, by omega, by go_num, drewNB HB.out _⟩
      case measure => simp [intOf]; omega
    have hne : ((k : Int) + 1 == (jr : Int) + 1) = false := by simp; omega
    have hne2 : ((k : Int) + 1 != (jr : Int) + 1) = true := by simp; omega
    have hne3 : ((k : Int) == (jr : Int)) = false := by simp; omega
    have hne4 : ((k : Int) != (jr : Int)) = true := by simp; omega
    obtain ⟨ss, qs, hR, hQ, hA⟩ := TK.out.cells hkl
    obtain ⟨y, hy⟩ : ∃ y, l[k] = y := ⟨_, rfl⟩
    rw [hy] at hR hQ hA
    have d0 : wr.cell? ⟨g, k * 8, none⟩ = some (.int .i64 y.kind) := hA 0 _ rfl
    by_cases hk3 : ¬ y.kind = 3
    · have hk3' : (y.kind == 3) = false := by simpa using hk3
      clear hR hQ hA hy hk3
      go_upto_region 11 with fail
      go_quiet (fail)
      go_wp2
      go_roundw
      case rel => exact ⟨k + 1, by omega, by go_num, drewNB HB.out _⟩
      case measure => simp [intOf]; omega
    have hk3' : y.kind = 3 := by omega
    obtain ⟨sx, qx, hR', hQ', hA'⟩ := PK.out.cells (i := k) (by have := HXL.out; omega)
    have hxy : x[k]'(by have := HXL.out; omega) = y := by
      have := do_other HO.out hkl (by dsimp only; omega) (by rw [hy]; exact hk3')
      rw [← hy, ← this]
      exact get_of HXA.out.1 _
    rw [hxy] at hR' hQ' hA'
    have hsm : y.slots.length ≤ 1048576 ∧ y.queue.length ≤ 1048576 := by have := HSX.out.2 k (by have := HXL.out; omega); rw [hxy] at this; exact this
    have d1 : wr.cell? ⟨g, k * 8 + 1, none⟩ = some (.int .i64 y.sec) := hA 1 _ rfl
    have d2 : wr.cell? ⟨g, k * 8 + 2, none⟩ = some (.int .i64 y.vou) := hA 2 _ rfl
    have d3 : wr.cell? ⟨g, k * 8 + 3, none⟩ = some (.int .i64 y.vers) := hA 3 _ rfl
    have d4 : wr.cell? ⟨g, k * 8 + 4, none⟩ = some (.int .i64 y.num) := hA 4 _ rfl
    have d5 : wr.cell? ⟨g, k * 8 + 5, none⟩ = some (.slice ss.a ss.n ss.c) := hA 5 _ rfl
    have d6 : wr.cell? ⟨g, k * 8 + 6, none⟩ = some (.slice qs.a qs.n qs.c) := hA 6 _ rfl
    have d7 : wr.cell? ⟨g, k * 8 + 7, none⟩ = some (.int .i64 y.to) := hA 7 _ rfl
    have e0 : wr.cell? ⟨gx, k * 8, none⟩ = some (.int .i64 y.kind) := hA' 0 _ rfl
    have e1 : wr.cell? ⟨gx, k * 8 + 1, none⟩ = some (.int .i64 y.sec) := hA' 1 _ rfl
    have e2 : wr.cell? ⟨gx, k * 8 + 2, none⟩ = some (.int .i64 y.vou) := hA' 2 _ rfl
    have e3 : wr.cell? ⟨gx, k * 8 + 3, none⟩ = some (.int .i64 y.vers) := hA' 3 _ rfl
    have e4 : wr.cell? ⟨gx, k * 8 + 4, none⟩ = some (.int .i64 y.num) := hA' 4 _ rfl
    have e5 : wr.cell? ⟨gx, k * 8 + 5, none⟩ = some (.slice sx.a sx.n sx.c) := hA' 5 _ rfl
    have e6 : wr.cell? ⟨gx, k * 8 + 6, none⟩ = some (.slice qx.a qx.n qx.c) := hA' 6 _ rfl
    have e7 : wr.cell? ⟨gx, k * 8 + 7, none⟩ = some (.int .i64 y.to) := hA' 7 _ rfl
    obtain ⟨ck3, s5, v5, r5, n5, sl5, q5, t5⟩ := y
    dsimp only at *
    subst hk3'
    have cc0 := fun zz : Wd (Kn wr []) => stayCell d0 zz.ok.1
    have ee0 := fun zz : Wd (Kn wr []) => stayCell e0 zz.ok.1
    have cc1 := fun zz : Wd (Kn wr []) => stayCell d1 zz.ok.1
    have ee1 := fun zz : Wd (Kn wr []) => stayCell e1 zz.ok.1
    have cc2 := fun zz : Wd (Kn wr []) => stayCell d2 zz.ok.1
    have ee2 := fun zz : Wd (Kn wr []) => stayCell e2 zz.ok.1
    have cc3 := fun zz : Wd (Kn wr []) => stayCell d3 zz.ok.1
    have ee3 := fun zz : Wd (Kn wr []) => stayCell e3 zz.ok.1
    have cc4 := fun zz : Wd (Kn wr []) => stayCell d4 zz.ok.1
    have ee4 := fun zz : Wd (Kn wr []) => stayCell e4 zz.ok.1
    have cc5 := fun zz : Wd (Kn wr []) => stayCell d5 zz.ok.1
    have ee5 := fun zz : Wd (Kn wr []) => stayCell e5 zz.ok.1
    have cc6 := fun zz : Wd (Kn wr []) => stayCell d6 zz.ok.1
    have ee6 := fun zz : Wd (Kn wr []) => stayCell e6 zz.ok.1
    have cc7 := fun zz : Wd (Kn wr []) => stayCell d7 zz.ok.1
    have ee7 := fun zz : Wd (Kn wr []) => stayCell e7 zz.ok.1
    have cq1 := fun zz : Wd (Kn wr []) => stayCell c1 zz.ok.1
    have ne : Nonempty (Wd (Kn wr [])) := ⟨⟨_, (Kn.refl (w := wr)).drew⟩⟩
    have HL := Lib.hid (fun zz : Wd (Kn wr []) => ldThing_same ⟨3, s5, v5, r5, n5, sl5, q5, t5⟩ sx qx ss qs zz.w (hR'.stay zz.ok.1) (hQ'.stay zz.ok.1) (hR.stay zz.ok.1) (hQ.stay zz.ok.1) hsm.1 hsm.2)
    clear d0 e0 d1 e1 d2 e2 d3 e3 d4 e4 d5 e5 d6 e6 d7 e7 c1 hR hQ hR' hQ' hA hA' hy hxy hsm hk3
    go_upto_region 11 with fail
    refine wp_region_quiet (C := fun y => ∃ zz : Wd (Kn wr []), y = zz.w) (by kernel_rfl) (by kernel_rfl) ⟨⟨_, (Kn.refl (w := wr)).drew⟩, rfl⟩ ?_
    show wpQuiet _ _ _ _ [_, _, _, _, _, _, _, _, _, _, _, _, _, _, _, _, _, _, _, _, _, _, _, _, _] _
    repeat (first | go_big_quiet_step ((go_at_call 24; with_reducible exact inCls Kn.stay (HL.out _))) | quiet_step ((go_at_call 24; with_reducible exact inCls Kn.stay (HL.out _))))
    refine wpQuiet_nil ?_
    rintro _ ⟨⟨y9, K9⟩, rfl⟩
    have HB2 := Lib.hid (HB.out.trans (K9.1.mono HB.out.size))
    clear ne cc0 ee0 cc1 ee1 cc2 ee2 cc3 ee3 cc4 ee4 cc5 ee5 cc6 ee6 cc7 ee7 cq1 K9 HL
    go_wp2
    go_roundw
    case rel => exact ⟨k + 1, by omega, by go_num, HB2.out⟩
    case measure => simp [intOf]; omega
end Go.Proofs.YtgpiclngkmjnpaaGreatDoor
