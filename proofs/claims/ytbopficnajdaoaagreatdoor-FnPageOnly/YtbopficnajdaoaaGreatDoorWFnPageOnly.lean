/-
  The walk of laws.FnPageOnly.
-/
import Derived.Test.YtbopficnajdaoaaGreatDoorLdM
namespace Go.Proofs.YtbopficnajdaoaaGreatDoor
open Go.RowKit
set_option maxRecDepth 100000
set_option linter.unusedVariables false

theorem ldThing_val (x y : T8) {v : Bool} (h : v = true ↔ x = y) (s q t p : Sl) (w : World) (hs : HasR w s x.slots) (hq : HasQ w q x.queue) (ht : HasR w t y.slots) (hp : HasQ w p y.queue) (hz : x.slots.length ≤ 1048576) (hzq : x.queue.length ≤ 1048576) :
    Calls Tryz.prog 28 #[x.val s q, y.val t p] w (fun e w' => e = .returned (.bool v) ∧ Below w.heap.size w w') :=
  (ldThing_any x y s q t p w hs hq ht hp hz hzq).mono fun e w' h2 => by
    obtain ⟨b, h3, h4, h5⟩ := h2
    refine ⟨?_, h5⟩
    have : b = v := by
      have h6 := h4.trans h.symm
      cases b <;> cases v <;> simp_all
    rw [h3, this]
set_option maxHeartbeats 16000000 in
theorem walk_FnPageOnly (a0 : Option Addr) (len0 cap0 : Nat) (z0 : List Int) (w : World) (hKF : KF w) (hET : ET w) (w0 : IsRow .u8 w a0 len0 cap0 z0) :
    Calls Tryz.prog 17 #[.slice a0 len0 cap0] w fun e w' => e = .returned (.bool true) ∧ Below w.heap.size w w' := by
  by_cases g0 : (1048576 : Int) < (len0 : Int)
  · go_enter Tryz.func17, Tryz.ntmps17
    go_wp2
    go_ret
    exact ⟨rfl, Below.refl _ _⟩
  have W0 := Lib.hid w0
  have HF := Lib.hid hKF
  have HE := Lib.hid hET
  clear w0 hKF hET
  go_enter Tryz.func17, Tryz.ntmps17
  go_wp2_with fail
  refine (drawCD_any a0 len0 cap0 z0 _ W0.out).mono ?_
  rintro e y0 ⟨g, c, l, q, rfl, hT, l3, l8, hzs, hb⟩
  have K0 := Lib.hid ((Kn.start hb).new 25 (C5.cs q))
  have T0 := Lib.hid (hT.stay ((Below.refl _ _).alloc (Nat.le_refl _) (.cells (C5.cs q) 25)))
  have HZS := Lib.hid hzs
  have hz : l.length ≤ 1048576 := by omega
  clear W0 hb hT hzs
  obtain ⟨x, ans, hv⟩ : ∃ x ans, callV l q = (x, ans) := ⟨_, _, rfl⟩
  have HV := Lib.hid hv
  have HSX := Lib.hid (call_sm hv)
  clear hv
  go_wp2_with fail
  refine (specDo_val (s := ⟨some ⟨g, 0, none⟩, l.length, c⟩) HV.out _ T0.out hz HZS.out).mono ?_
  rintro e y1 ⟨s1, ts1, rfl, t1, hm1, hb⟩
  have K1 := Lib.hid (K0.out.stay hb)
  have T1 := Lib.hid (T0.out.stay hb)
  have X1 := Lib.hid (show HasT y1 s1 x from hm1 ▸ t1.hasT)
  clear hb t1 hm1 K0 T0
  have c0 := K1.out.c (b := y0.heap.size) (T := 25) (vs := C5.cs q) (by simp) 0 _ rfl
  have c1 := K1.out.c (b := y0.heap.size) (T := 25) (vs := C5.cs q) (by simp) 1 _ rfl
  have c2 := K1.out.c (b := y0.heap.size) (T := 25) (vs := C5.cs q) (by simp) 2 _ rfl
  have c3 := K1.out.c (b := y0.heap.size) (T := 25) (vs := C5.cs q) (by simp) 3 _ rfl
  have c4 := K1.out.c (b := y0.heap.size) (T := 25) (vs := C5.cs q) (by simp) 4 _ rfl
  go_wp2_with fail
  refine (implDo_val (s := ⟨some ⟨g, 0, none⟩, l.length, c⟩) HV.out _ T1.out (HF.out.stay K1.out.1) (HE.out.stay K1.out.1) hz).mono ?_
  rintro e y2 ⟨s2, ts2, rfl, t2, hm2, hb⟩
  have K2 := Lib.hid (K1.out.stay hb)
  have T2 := Lib.hid (T1.out.stay hb)
  have X2 := Lib.hid (X1.out.stay hb)
  have P2 := Lib.hid (show HasT y2 s2 x from hm2 ▸ t2.hasT)
  have HA2 := Lib.hid (show 0 < x.length → ∃ gx, s2.a = some ⟨gx, 0, none⟩ from fun h => by
    obtain ⟨gx, cur, e, -⟩ := t2.1.form (by have := congrArg List.length hm2; simp at this; omega)
    exact ⟨gx, e⟩)
  clear hb t2 hm2 K1 T1 X1 c0 c1 c2 c3 c4
  go_wp2_with fail
  refine (ldTable_same x s2 s1 _ P2.out X2.out HSX.out.1 HSX.out.2).mono ?_
  rintro e y3 ⟨rfl, hb⟩
  have K3 := Lib.hid (K2.out.stay hb)
  have T3 := Lib.hid (T2.out.stay hb)
  have X3 := Lib.hid (X2.out.stay hb)
  have P3 := Lib.hid (P2.out.stay hb)
  clear hb K2 T2 X2 P2
  have c0 := K3.out.c (b := y0.heap.size) (T := 25) (vs := C5.cs q) (by simp) 0 _ rfl
  have c1 := K3.out.c (b := y0.heap.size) (T := 25) (vs := C5.cs q) (by simp) 1 _ rfl
  have c2 := K3.out.c (b := y0.heap.size) (T := 25) (vs := C5.cs q) (by simp) 2 _ rfl
  have c3 := K3.out.c (b := y0.heap.size) (T := 25) (vs := C5.cs q) (by simp) 3 _ rfl
  have c4 := K3.out.c (b := y0.heap.size) (T := 25) (vs := C5.cs q) (by simp) 4 _ rfl
  go_wp2_with fail
  refine (ldCan_any l g l.length c q _ T3.out rfl (HF.out.stay K3.out.1) hz).mono ?_
  rintro e y4 ⟨v, rfl, hv, hb⟩
  have HVV := Lib.hid hv
  have K4 := Lib.hid (K3.out.stay hb)
  have T4 := Lib.hid (T3.out.stay hb)
  have X4 := Lib.hid (X3.out.stay hb)
  have P4 := Lib.hid (P3.out.stay hb)
  clear hb hv K3 T3 X3 P3 c0 c1 c2 c3 c4
  cases v
  · go_wp2_with fail
    refine (ldTable_same x s2 s1 _ P4.out X4.out HSX.out.1 HSX.out.2).mono ?_
    rintro e y5 ⟨rfl, hb⟩
    have HB := Lib.hid (K4.out.stay hb).1
    clear hb
    go_wp2
    go_ret
    exact ⟨rfl, HB.out⟩
  have HO := Lib.hid (HVV.out.1 rfl)
  have HXA := Lib.hid (show x = (doV l q).1 ∧ ans = (doV l q).2 by
    have := HV.out
    rw [callV_ok HO.out] at this
    rw [this]; exact ⟨rfl, rfl⟩)
  have hxl : x.length = l.length := by rw [HXA.out.1, do_len]
  obtain ⟨gx, hs2⟩ := HA2.out (by omega)
  have hsn : s2.n = l.length := by rw [P4.out.1, hxl]
  have HXL := Lib.hid hxl
  obtain ⟨s2a, s2n, cx⟩ := s2
  dsimp only at hs2 hsn
  subst hs2 hsn
  obtain ⟨jr, hjr, hcr, hth, hkr⟩ := HO.out.run
  have hbd := C5.bd HO.out.2
  obtain ⟨ck, cr, ca, cbb, cn⟩ := q
  dsimp only at *
  subst hcr
  obtain ⟨ja, rfl⟩ : ∃ ja : Nat, ca = ja := ⟨ca.toNat, by omega⟩
  obtain ⟨jb, rfl⟩ : ∃ jb : Nat, cbb = jb := ⟨cbb.toNat, by omega⟩
  have hja : ja < 4 := by omega
  have hjb : jb < 4 := by omega
  have hjr' : (jr : Int) < (l.length : Int) := by omega
  have hja' : (ja : Int) < 4 := by omega
  have hjb' : (jb : Int) < 4 := by omega
  have wr : wrap64 ((jr : Int) + 1 - 1) = (jr : Int) := by unfold wrap64; omega
  have wr2 : IntKind.i64.wrap (jr : Int) = (jr : Int) := IntWalk.i64_in _ (by omega)
  have HBD := Lib.hid hbd
  have HTH := Lib.hid hth
  have HKR := Lib.hid hkr
  clear hbd hth hkr hxl HA2 HV HVV X4 HZS
  have c0 := K4.out.c (b := y0.heap.size) (T := 25) (vs := C5.cs ⟨ck, (jr : Int) + 1, (ja : Int), (jb : Int), cn⟩) (by simp) 0 _ rfl
  have c1 := K4.out.c (b := y0.heap.size) (T := 25) (vs := C5.cs ⟨ck, (jr : Int) + 1, (ja : Int), (jb : Int), cn⟩) (by simp) 1 _ rfl
  have c2 := K4.out.c (b := y0.heap.size) (T := 25) (vs := C5.cs ⟨ck, (jr : Int) + 1, (ja : Int), (jb : Int), cn⟩) (by simp) 2 _ rfl
  have c3 := K4.out.c (b := y0.heap.size) (T := 25) (vs := C5.cs ⟨ck, (jr : Int) + 1, (ja : Int), (jb : Int), cn⟩) (by simp) 3 _ rfl
  have c4 := K4.out.c (b := y0.heap.size) (T := 25) (vs := C5.cs ⟨ck, (jr : Int) + 1, (ja : Int), (jb : Int), cn⟩) (by simp) 4 _ rfl
  go_wp2
  go_loopw [9] (fun i wr => ∃ k : Nat, k ≤ l.length ∧ i = .int .i64 k ∧ Below y4.heap.size y4 wr) (fun i _ => l.length - (intOf i).toNat)
  case atStart => exact ⟨0, by omega, rfl, Below.refl _ _⟩
  case round =>
    obtain ⟨k, hk, rfl, B0⟩ := hrel
    have HB := Lib.hid B0
    have KK := Lib.hid (K4.out.stay B0)
    have TK := Lib.hid (T4.out.stay B0)
    have PK := Lib.hid (P4.out.stay B0)
    clear B0 c0 c1 c2 c3 c4
    by_cases hlt : ¬ k < l.length
    · have hlt' : ¬ (k : Int) < (l.length : Int) := by omega
      go_wp2
      go_ret
      exact ⟨by simp, KK.out.1⟩
    have hkl : k < l.length := by omega
    have hlt' : (k : Int) < (l.length : Int) := by omega
    have wk : wrap64 ((k : Int) + 1) = (k : Int) + 1 := by unfold wrap64; omega
    have wk2 : IntKind.i64.wrap ((k : Int) + 1) = (k : Int) + 1 := IntWalk.i64_in _ (by omega)
    have wk3 : IntKind.i64.wrap (k : Int) = (k : Int) := IntWalk.i64_in _ (by omega)
    obtain ⟨ss, qs, hR, hQ, hA⟩ := TK.out.cells hkl
    obtain ⟨sx, qx, hR', hQ', hA'⟩ := PK.out.cells (i := k) (by rw [HXL.out]; exact hkl)
    obtain ⟨y, hy⟩ : ∃ y, l[k] = y := ⟨_, rfl⟩
    obtain ⟨z, hz'⟩ : ∃ z, x[k]'(by rw [HXL.out]; exact hkl) = z := ⟨_, rfl⟩
    have hpo := page_only HO.out hkl
    rw [← get_of HXA.out.1 (i := k) (by rw [HXL.out]; exact hkl), hy, hz'] at hpo
    have hsm : z.slots.length ≤ 1048576 ∧ z.queue.length ≤ 1048576 := by have := HSX.out.2 k (by rw [HXL.out]; exact hkl); rw [hz'] at this; exact this
    rw [hy] at hR hQ hA
    rw [hz'] at hR' hQ' hA'
    have d0 : wr.cell? ⟨g, k * 8, none⟩ = some (.int .i64 y.kind) := hA 0 _ rfl
    have d1 : wr.cell? ⟨g, k * 8 + 1, none⟩ = some (.int .i64 y.sec) := hA 1 _ rfl
    have d2 : wr.cell? ⟨g, k * 8 + 2, none⟩ = some (.int .i64 y.vou) := hA 2 _ rfl
    have d3 : wr.cell? ⟨g, k * 8 + 3, none⟩ = some (.int .i64 y.vers) := hA 3 _ rfl
    have d4 : wr.cell? ⟨g, k * 8 + 4, none⟩ = some (.int .i64 y.num) := hA 4 _ rfl
    have d5 : wr.cell? ⟨g, k * 8 + 5, none⟩ = some (.slice ss.a ss.n ss.c) := hA 5 _ rfl
    have d6 : wr.cell? ⟨g, k * 8 + 6, none⟩ = some (.slice qs.a qs.n qs.c) := hA 6 _ rfl
    have d7 : wr.cell? ⟨g, k * 8 + 7, none⟩ = some (.int .i64 y.to) := hA 7 _ rfl
    have e0 : wr.cell? ⟨gx, k * 8, none⟩ = some (.int .i64 z.kind) := hA' 0 _ rfl
    have e1 : wr.cell? ⟨gx, k * 8 + 1, none⟩ = some (.int .i64 z.sec) := hA' 1 _ rfl
    have e2 : wr.cell? ⟨gx, k * 8 + 2, none⟩ = some (.int .i64 z.vou) := hA' 2 _ rfl
    have e3 : wr.cell? ⟨gx, k * 8 + 3, none⟩ = some (.int .i64 z.vers) := hA' 3 _ rfl
    have e4 : wr.cell? ⟨gx, k * 8 + 4, none⟩ = some (.int .i64 z.num) := hA' 4 _ rfl
    have e5 : wr.cell? ⟨gx, k * 8 + 5, none⟩ = some (.slice sx.a sx.n sx.c) := hA' 5 _ rfl
    have e6 : wr.cell? ⟨gx, k * 8 + 6, none⟩ = some (.slice qx.a qx.n qx.c) := hA' 6 _ rfl
    have e7 : wr.cell? ⟨gx, k * 8 + 7, none⟩ = some (.int .i64 z.to) := hA' 7 _ rfl
    obtain ⟨v, hv⟩ : ∃ v : Bool, (v = true ↔ z = y) := by
      by_cases h : z = y
      · exact ⟨true, by simp [h]⟩
      · exact ⟨false, by simp [h]⟩
    have HPO := Lib.hid hpo
    have HVV := Lib.hid hv
    have HL := Lib.hid (fun zz : Wd (Kn wr []) => ldThing_val z y hv sx qx ss qs zz.w (hR'.stay zz.ok.1) (hQ'.stay zz.ok.1) (hR.stay zz.ok.1) (hQ.stay zz.ok.1) hsm.1 hsm.2)
    have HAY := Lib.hid hA
    clear hR hQ hR' hQ' hA hA' hy hz' hsm hpo hv
    have qd0 := fun zz : Wd (Kn wr []) => stayCell d0 zz.ok.1
    have qd1 := fun zz : Wd (Kn wr []) => stayCell d1 zz.ok.1
    have qd2 := fun zz : Wd (Kn wr []) => stayCell d2 zz.ok.1
    have qd3 := fun zz : Wd (Kn wr []) => stayCell d3 zz.ok.1
    have qd4 := fun zz : Wd (Kn wr []) => stayCell d4 zz.ok.1
    have qd5 := fun zz : Wd (Kn wr []) => stayCell d5 zz.ok.1
    have qd6 := fun zz : Wd (Kn wr []) => stayCell d6 zz.ok.1
    have qd7 := fun zz : Wd (Kn wr []) => stayCell d7 zz.ok.1
    have qe0 := fun zz : Wd (Kn wr []) => stayCell e0 zz.ok.1
    have qe1 := fun zz : Wd (Kn wr []) => stayCell e1 zz.ok.1
    have qe2 := fun zz : Wd (Kn wr []) => stayCell e2 zz.ok.1
    have qe3 := fun zz : Wd (Kn wr []) => stayCell e3 zz.ok.1
    have qe4 := fun zz : Wd (Kn wr []) => stayCell e4 zz.ok.1
    have qe5 := fun zz : Wd (Kn wr []) => stayCell e5 zz.ok.1
    have qe6 := fun zz : Wd (Kn wr []) => stayCell e6 zz.ok.1
    have qe7 := fun zz : Wd (Kn wr []) => stayCell e7 zz.ok.1
    have ne : Nonempty (Wd (Kn wr [])) := ⟨⟨_, (Kn.refl (w := wr)).drew⟩⟩
    clear d0 d1 d2 d3 d4 d5 d6 d7 e0 e1 e2 e3 e4 e5 e6 e7
    go_upto_region 11 with fail
    refine wp_region_quiet (C := fun y => ∃ zz : Wd (Kn wr []), y = zz.w) (by kernel_rfl) (by kernel_rfl) ⟨⟨_, (Kn.refl (w := wr)).drew⟩, rfl⟩ ?_
    show wpQuiet _ _ _ _ [_, _, _, _, _, _, _, _, _] _
    repeat (first | go_big_quiet_step ((go_at_call 28; with_reducible exact inCls Kn.stay (HL.out _))) | quiet_step ((go_at_call 28; with_reducible exact inCls Kn.stay (HL.out _))))
    refine wpQuiet_nil ?_
    rintro y9 ⟨⟨_, K9⟩, rfl⟩
    have HB2 := Lib.hid (HB.out.trans (K9.1.mono HB.out.size))
    have KQ := Lib.hid (KK.out.stay K9.1)
    have HAY9 := Lib.hid (HAY.out.stay K9.1)
    clear ne qd0 qe0 qd1 qe1 qd2 qe2 qd3 qe3 qd4 qe4 qd5 qe5 qd6 qe6 qd7 qe7 K9 HL KK TK PK HB
    cases v
    · have hne : ¬ z = y := fun h => by cases HVV.out.2 h
      have c0 := KQ.out.c (b := y0.heap.size) (T := 25) (vs := C5.cs ⟨ck, (jr : Int) + 1, (ja : Int), (jb : Int), cn⟩) (by simp) 0 _ rfl
      have d0 : y9.cell? ⟨g, k * 8, none⟩ = some (.int .i64 y.kind) := HAY9.out 0 _ rfl
      obtain ⟨kd, sd, vd, rd, nd, sld, qd, td⟩ := y
      have hcs : z = _ ∨ _ := HPO.out
      dsimp only at d0 hcs
      clear HPO HVV HAY HAY9
      rcases hcs with h | ⟨rfl, h | h | h⟩ | ⟨rfl, h | h⟩ | rfl | ⟨rfl, h | h | h⟩ | ⟨rfl, h⟩
      · exact absurd h hne
      all_goals
        clear hne HXA HO HBD HTH HKR
        try subst h
        go_wp2
        go_roundw
        case rel => exact ⟨k + 1, hkl, by go_num, HB2.out⟩
        case measure => simp [intOf]; omega
    · go_wp2
      go_roundw
      case rel => exact ⟨k + 1, hkl, by go_num, HB2.out⟩
      case measure => simp [intOf]; omega
end Go.Proofs.YtbopficnajdaoaaGreatDoor
