/-
  The walk of laws.FnCheckSame.
-/
import Derived.Test.YtohfincnjhemfaaDoorCkM
namespace Go.Proofs.YtohfincnjhemfaaDoor
open Go.RowKit
set_option maxRecDepth 100000
set_option linter.unusedVariables false

/-- What is told hangs on the kind of the call, the runner's label and the right alone. -/
theorem useV_label {l : List T8} {p p' : T8} (h1 : p'.sec = p.sec) (h2 : p'.vou = p.vou) (r : R5) (k : Int) : useV l p' r k = useV l p r k := by
  unfold useV seesT touT
  rw [h1, h2]
theorem chkV_same {l : List T8} {k r a b n r' b' n' : Int} (h1 : (tabOk l && isRun l r) = true) (h2 : (tabOk l && isRun l r') = true) (o1 : C5.ok ⟨k, r, a, b, n⟩ = true) (o2 : C5.ok ⟨k, r', a, b', n'⟩ = true)
    (e1 : (thAt l r').sec = (thAt l r).sec) (e2 : (thAt l r').vou = (thAt l r).vou) (e3 : slotAt (thAt l r') a = slotAt (thAt l r) a) : chkV l ⟨k, r', a, b', n'⟩ = chkV l ⟨k, r, a, b, n⟩ := by
  rw [chkV_go (c := ⟨k, r', a, b', n'⟩) h2 o2, chkV_go (c := ⟨k, r, a, b, n⟩) h1 o1]
  dsimp only
  split
  · rfl
  · rw [e3, useV_label e1 e2]
theorem ok_part {k r a b n : Int} (h : C5.ok ⟨k, r, a, b, n⟩ = true) {r' b' n' : Int} (hr : 1 ≤ r' ∧ r' ≤ 8) (hb : 0 ≤ b' ∧ b' ≤ 3) (hn : 0 ≤ n' ∧ n' ≤ 99) : C5.ok ⟨k, r', a, b', n'⟩ = true := by
  simp only [C5.ok, Bool.and_eq_true] at h ⊢
  refine ⟨h.1, ?_, h.2.2.1, ?_, ?_⟩ <;> simp [inR] <;> omega

set_option maxHeartbeats 8000000 in
theorem walk_FnCheckSame (a0 : Option Addr) (len0 cap0 : Nat) (z0 : List Int) (a1 : Option Addr) (len1 cap1 : Nat) (z1 : List Int) (w : World) (hKF : KF w) (hET : ET w) (w0 : IsRow .u8 w a0 len0 cap0 z0) (w1 : IsRow .u8 w a1 len1 cap1 z1) :
    Calls Tryd.prog 12 #[.slice a0 len0 cap0, .slice a1 len1 cap1] w fun e w' => e = .returned (.bool true) ∧ Below w.heap.size w w' := by
  clear w1
  by_cases g0 : (1048576 : Int) < (len0 : Int)
  · go_enter Tryd.func12, Tryd.ntmps12
    go_wp2
    go_ret
    exact ⟨rfl, Below.refl _ _⟩
  by_cases g1 : (1048576 : Int) < (len1 : Int)
  · go_enter Tryd.func12, Tryd.ntmps12
    go_wp2
    go_ret
    exact ⟨rfl, Below.refl _ _⟩
  have W0 := Lib.hid w0
  have HF := Lib.hid hKF
  have HE := Lib.hid hET
  clear w0 hKF hET
  go_enter Tryd.func12, Tryd.ntmps12
  go_wp2_with fail
  refine (drawCC_any a0 len0 cap0 z0 _ W0.out).mono ?_
  rintro e y0 ⟨g, c, l, q, rfl, hT, l3, l8, hzs, hb⟩
  have K0 := Lib.hid ((Kn.start hb).new 37 (C5.cs q))
  have T0 := Lib.hid (hT.stay ((Below.refl _ _).alloc (Nat.le_refl _) (.cells (C5.cs q) 37)))
  have HZS := Lib.hid hzs
  have hz : l.length ≤ 1048576 := by omega
  clear W0 hb hT hzs
  obtain ⟨v, hv⟩ : ∃ v, chkV l q = v := ⟨_, rfl⟩
  have HV := Lib.hid hv
  clear hv
  go_wp2_with fail
  refine (implCheck_val (s := ⟨some ⟨g, 0, none⟩, l.length, c⟩) HV.out _ T0.out (HF.out.stay K0.out.1) (HE.out.stay K0.out.1) hz).mono ?_
  rintro e y1 ⟨rfl, hb⟩
  have K1 := Lib.hid (K0.out.stay hb)
  have T1 := Lib.hid (T0.out.stay hb)
  clear hb K0 T0
  have c0 := K1.out.c (b := y0.heap.size) (T := 37) (vs := C5.cs q) (by simp) 0 _ rfl
  have c1 := K1.out.c (b := y0.heap.size) (T := 37) (vs := C5.cs q) (by simp) 1 _ rfl
  have c2 := K1.out.c (b := y0.heap.size) (T := 37) (vs := C5.cs q) (by simp) 2 _ rfl
  have c3 := K1.out.c (b := y0.heap.size) (T := 37) (vs := C5.cs q) (by simp) 3 _ rfl
  have c4 := K1.out.c (b := y0.heap.size) (T := 37) (vs := C5.cs q) (by simp) 4 _ rfl
  go_wp2_with fail
  refine (specCheck_val (s := ⟨some ⟨g, 0, none⟩, l.length, c⟩) HV.out _ T1.out hz HZS.out).mono ?_
  rintro e y2 ⟨rfl, hb⟩
  have K2 := Lib.hid (K1.out.stay hb)
  have T2 := Lib.hid (T1.out.stay hb)
  clear hb K1 T1 c0 c1 c2 c3 c4
  have c0 := K2.out.c (b := y0.heap.size) (T := 37) (vs := C5.cs q) (by simp) 0 _ rfl
  have c1 := K2.out.c (b := y0.heap.size) (T := 37) (vs := C5.cs q) (by simp) 1 _ rfl
  have c2 := K2.out.c (b := y0.heap.size) (T := 37) (vs := C5.cs q) (by simp) 2 _ rfl
  have c3 := K2.out.c (b := y0.heap.size) (T := 37) (vs := C5.cs q) (by simp) 3 _ rfl
  have c4 := K2.out.c (b := y0.heap.size) (T := 37) (vs := C5.cs q) (by simp) 4 _ rfl
  have fin : ∀ y : World, Kn w [(y0.heap.size, 37, C5.cs q)] y → HasT y ⟨some ⟨g, 0, none⟩, l.length, c⟩ l → Calls Tryd.prog 29 #[.slice (some ⟨g, 0, none⟩) l.length c, .agg #[.int .i64 q.k, .int .i64 q.r, .int .i64 q.a, .int .i64 q.b, .int .i64 q.n]] y fun e y' => e = .returned (.int .i64 v) ∧ Below w.heap.size w y' := fun y hk ht =>
    (specCheck_val (s := ⟨some ⟨g, 0, none⟩, l.length, c⟩) HV.out _ ht hz HZS.out).mono fun e y' h => ⟨h.1, (hk.stay h.2).1⟩
  have FIN := Lib.hid fin
  clear fin
  obtain ⟨b1, hb1⟩ : ∃ b1, tabOk l = b1 := ⟨_, rfl⟩
  have HB1 := Lib.hid hb1
  clear hb1
  go_wp2_with fail
  refine (specTabOk_val' (s := ⟨some ⟨g, 0, none⟩, l.length, c⟩) HB1.out _ T2.out hz HZS.out).mono ?_
  rintro e y3 ⟨rfl, hb⟩
  have K3 := Lib.hid (K2.out.stay hb)
  have T3 := Lib.hid (T2.out.stay hb)
  clear hb K2 T2 c0 c1 c2 c3 c4
  have c0 := K3.out.c (b := y0.heap.size) (T := 37) (vs := C5.cs q) (by simp) 0 _ rfl
  have c1 := K3.out.c (b := y0.heap.size) (T := 37) (vs := C5.cs q) (by simp) 1 _ rfl
  have c2 := K3.out.c (b := y0.heap.size) (T := 37) (vs := C5.cs q) (by simp) 2 _ rfl
  have c3 := K3.out.c (b := y0.heap.size) (T := 37) (vs := C5.cs q) (by simp) 3 _ rfl
  have c4 := K3.out.c (b := y0.heap.size) (T := 37) (vs := C5.cs q) (by simp) 4 _ rfl
  cases b1
  · go_wp2_with fail
    refine (FIN.out _ K3.out T3.out).mono ?_
    rintro e y9 ⟨rfl, hb⟩
    have HB := Lib.hid hb
    clear hb
    go_wp2
    go_ret
    exact ⟨rfl, HB.out⟩
  obtain ⟨b2, hb2⟩ : ∃ b2, q.ok = b2 := ⟨_, rfl⟩
  have HB2 := Lib.hid hb2
  clear hb2
  go_wp2_with fail
  refine (specCallOk_val HB2.out _).mono ?_
  rintro e y4 ⟨rfl, hb⟩
  have K4 := Lib.hid (K3.out.stay hb)
  have T4 := Lib.hid (T3.out.stay hb)
  clear hb K3 T3 c0 c1 c2 c3 c4
  have c0 := K4.out.c (b := y0.heap.size) (T := 37) (vs := C5.cs q) (by simp) 0 _ rfl
  have c1 := K4.out.c (b := y0.heap.size) (T := 37) (vs := C5.cs q) (by simp) 1 _ rfl
  have c2 := K4.out.c (b := y0.heap.size) (T := 37) (vs := C5.cs q) (by simp) 2 _ rfl
  have c3 := K4.out.c (b := y0.heap.size) (T := 37) (vs := C5.cs q) (by simp) 3 _ rfl
  have c4 := K4.out.c (b := y0.heap.size) (T := 37) (vs := C5.cs q) (by simp) 4 _ rfl
  cases b2
  · go_wp2_with fail
    refine (FIN.out _ K4.out T4.out).mono ?_
    rintro e y9 ⟨rfl, hb⟩
    have HB := Lib.hid hb
    clear hb
    go_wp2
    go_ret
    exact ⟨rfl, HB.out⟩
  obtain ⟨k9, o1, o2, o3, o4⟩ := ok_k HB2.out
  by_cases hrl : (l.length : Int) < q.r
  · go_wp2_with fail
    refine (FIN.out _ K4.out T4.out).mono ?_
    rintro e y9 ⟨rfl, hb⟩
    have HB := Lib.hid hb
    clear hb
    go_wp2
    go_ret
    exact ⟨rfl, HB.out⟩
  obtain ⟨jr, hjr⟩ : ∃ j : Nat, q.r - 1 = j := ⟨(q.r - 1).toNat, by omega⟩
  have hjl : jr < l.length := by omega
  have hjl' : (jr : Int) < (l.length : Int) := by omega
  obtain ⟨ck, cr, ca, cbb, cn⟩ := q
  dsimp only at *
  obtain rfl : cr = (jr : Int) + 1 := by omega
  have wj1 : wrap64 ((jr : Int) + 1 - 1) = (jr : Int) := by unfold wrap64; omega
  have wj2 : IntKind.i64.wrap (jr : Int) = (jr : Int) := IntWalk.i64_in _ (by omega)
  have d0 : y4.cell? ⟨g, jr * 8, none⟩ = some (.int .i64 l[jr].kind) := by
    obtain ⟨b, o, e, h⟩ := T4.out.ne hjl
    simp only [Option.some.injEq, Addr.mk.injEq] at e
    obtain ⟨rfl, rfl, -⟩ := e
    obtain ⟨ss, qs, -, -, hA⟩ := h jr hjl
    have := hA 0 _ rfl
    simpa using this
  by_cases hk3 : ¬ l[jr].kind = 3
  · have hk3' : (l[jr].kind == 3) = false := by simpa using hk3
    clear hjr
    go_wp2_with fail
    refine (FIN.out _ K4.out T4.out).mono ?_
    rintro e y9 ⟨rfl, hb⟩
    have HB := Lib.hid hb
    clear hb
    go_wp2
    go_ret
    exact ⟨rfl, HB.out⟩
  have HK3 := Lib.hid (Classical.not_not.1 hk3)
  have d0' : y4.cell? ⟨g, jr * 8, none⟩ = some (.int .i64 3) := by rw [d0, HK3.out]
  clear d0 hk3 hjr FIN
  have HR := Lib.hid (show (tabOk l && isRun l ((jr : Int) + 1)) = true by
    have h1 : inR ((jr : Int) + 1) 1 l.length = true := by simp [inR]; omega
    rw [isRun, h1, thAt_of hjl (show (jr : Int) + 1 - 1 = jr by omega), HK3.out, HB1.out]; rfl)
  obtain ⟨nn, hnn⟩ : ∃ nn : Int, (len1 : Int) % 90 = nn := ⟨_, rfl⟩
  obtain ⟨nb, hnb⟩ : ∃ nb : Int, (len1 : Int) % 4 = nb := ⟨_, rfl⟩
  have hn0 : 0 ≤ nn ∧ nn ≤ 99 := by omega
  have hb0 : 0 ≤ nb ∧ nb ≤ 3 := by omega
  have u1 : (len1 : Int).tmod 90 = nn := by rw [Int.tmod_eq_emod_of_nonneg (by omega)]; exact hnn
  have u2 : (len1 : Int).tmod 4 = nb := by rw [Int.tmod_eq_emod_of_nonneg (by omega)]; exact hnb
  have HD := Lib.hid (show chkV l ⟨ck, (jr : Int) + 1, ca, nb, nn⟩ = v from (chkV_same HR.out HR.out HB2.out (ok_part HB2.out ⟨o1, o2⟩ hb0 hn0) rfl rfl rfl).trans HV.out)
  have K5 := Lib.hid (K4.out.new 37 (C5.cs ⟨ck, (jr : Int) + 1, ca, nb, nn⟩))
  have T5 := Lib.hid (T4.out.stay ((Below.refl _ _).alloc (Nat.le_refl _) (.cells (C5.cs ⟨ck, (jr : Int) + 1, ca, nb, nn⟩) 37)))
  have hy0 := cell_lt c0
  have hne : y4.heap.size ≠ y0.heap.size := by omega
  go_wp2_with fail
  refine (implCheck_val (s := ⟨some ⟨g, 0, none⟩, l.length, c⟩) (c := ⟨ck, (jr : Int) + 1, ca, nb, nn⟩) HD.out _ T5.out (HF.out.stay K5.out.1) (HE.out.stay K5.out.1) hz).mono ?_
  rintro e y5 ⟨rfl, hb⟩
  have K6 := Lib.hid (K5.out.stay hb)
  have B6 := Lib.hid (show Below y4.heap.size y4 y5 from ((Below.refl y4.heap.size y4).alloc (Nat.le_refl _) (.cells (C5.cs ⟨ck, (jr : Int) + 1, ca, nb, nn⟩) 37)).trans (hb.mono (by simp)))
  have hwy := K4.out.1.size
  clear hb K4 K5 T5 c0 c1 c2 c3 c4 d0' u1 u2 hnn hnb HD hy0
  obtain ⟨ja, rfl⟩ : ∃ ja : Nat, ca = ja := ⟨ca.toNat, by omega⟩
  have hja : ja < 4 := by omega
  have hja' : (ja : Int) < 4 := by omega
  have wa : IntKind.i64.wrap (ja : Int) = (ja : Int) := IntWalk.i64_in _ (by omega)
  go_wp2
  go_loopw [9] (fun i wx => ∃ (k : Nat) (rn : Int), i = .int .i64 ((k : Int) + 1) ∧ k ≤ l.length ∧ Kn w [(y4.heap.size, 37, C5.cs ⟨ck, rn, (ja : Int), nb, nn⟩), (y0.heap.size, 37, C5.cs ⟨ck, (jr : Int) + 1, (ja : Int), cbb, cn⟩)] wx ∧ Below y4.heap.size y4 wx) (fun i _ => l.length + 1 - (intOf i).toNat)
  case atStart => exact ⟨0, (jr : Int) + 1, rfl, by omega, K6.out, B6.out⟩
  case round =>
    clear K6 B6
    obtain ⟨k, rn, rfl, hk, kK, bK⟩ := hrel
    have KK := Lib.hid kK
    have BK := Lib.hid bK
    have TK := Lib.hid (T4.out.stay bK)
    clear kK bK
    by_cases hlt : ¬ k < l.length
    · have hlt' : ¬ (k : Int) + 1 ≤ (l.length : Int) := by omega
      go_wp2
      go_ret
      exact ⟨rfl, KK.out.1⟩
    have hkl : k < l.length := by omega
    have hlt' : (k : Int) + 1 ≤ (l.length : Int) := by omega
    have hlt2 : (k : Int) < (l.length : Int) := by omega
    have wk1 : wrap64 ((k : Int) + 1 - 1) = (k : Int) := by unfold wrap64; omega
    have wk2 : IntKind.i64.wrap (k : Int) = (k : Int) := IntWalk.i64_in _ (by omega)
    have key : ∀ (i : Nat) (hi : i < l.length), ∃ ss qs, HasR wr ss l[i].slots ∧ At wr g (i * 8) (l[i].cs ss qs) := fun i hi => by
      obtain ⟨b, o, e, h⟩ := TK.out.ne hi
      simp only [Option.some.injEq, Addr.mk.injEq] at e
      obtain ⟨rfl, rfl, -⟩ := e
      obtain ⟨ss, qs, hS, -, hA⟩ := h i hi
      exact ⟨ss, qs, hS, by simpa using hA⟩
    obtain ⟨ssr, qsr, hSr, hAr⟩ := key jr hjl
    obtain ⟨ssk, qsk, hSk, hAk⟩ := key k hkl
    have c1 := KK.out.c (b := y0.heap.size) (T := 37) (vs := C5.cs ⟨ck, (jr : Int) + 1, (ja : Int), cbb, cn⟩) (by simp) 1 _ rfl
    have c2 := KK.out.c (b := y0.heap.size) (T := 37) (vs := C5.cs ⟨ck, (jr : Int) + 1, (ja : Int), cbb, cn⟩) (by simp) 2 _ rfl
    have d0 : wr.cell? ⟨g, k * 8, none⟩ = some (.int .i64 l[k].kind) := hAk 0 _ rfl
    have d1 : wr.cell? ⟨g, k * 8 + 1, none⟩ = some (.int .i64 l[k].sec) := hAk 1 _ rfl
    have d2 : wr.cell? ⟨g, k * 8 + 2, none⟩ = some (.int .i64 l[k].vou) := hAk 2 _ rfl
    have m1 : wr.cell? ⟨g, jr * 8 + 1, none⟩ = some (.int .i64 l[jr].sec) := hAr 1 _ rfl
    have m2 : wr.cell? ⟨g, jr * 8 + 2, none⟩ = some (.int .i64 l[jr].vou) := hAr 2 _ rfl
    by_cases hk3 : ¬ l[k].kind = 3
    · have hk3' : (l[k].kind == 3) = false := by simpa using hk3
      clear hAr hAk hSr hSk key
      go_upto_region 15 with fail
      go_quiet (fail)
      go_wp2
      go_roundw
      case rel => exact ⟨k + 1, rn, by go_num, by omega, KK.out.drewN _, drewNB BK.out _⟩
      case measure => simp [intOf]; omega
    have HKK := Lib.hid (Classical.not_not.1 hk3)
    have d0' : wr.cell? ⟨g, k * 8, none⟩ = some (.int .i64 3) := by rw [d0, HKK.out]
    clear d0 hk3
    by_cases hs : ¬ l[k].sec = l[jr].sec
    · have hs' : (l[k].sec == l[jr].sec) = false := by simpa using hs
      clear hAr hAk hSr hSk key hs
      go_upto_region 15 with fail
      go_quiet (fail)
      go_wp2
      go_roundw
      case rel => exact ⟨k + 1, rn, by go_num, by omega, KK.out.drewN _, drewNB BK.out _⟩
      case measure => simp [intOf]; omega
    by_cases hv' : ¬ l[k].vou = l[jr].vou
    · have hs' : (l[k].vou == l[jr].vou) = false := by simpa using hv'
      clear hAr hAk hSr hSk key hv' hs
      go_upto_region 15 with fail
      go_quiet (fail)
      go_wp2
      go_roundw
      case rel => exact ⟨k + 1, rn, by go_num, by omega, KK.out.drewN _, drewNB BK.out _⟩
      case measure => simp [intOf]; omega
    have HSE := Lib.hid (Classical.not_not.1 hs)
    have HVE := Lib.hid (Classical.not_not.1 hv')
    have e1 : (l[k].sec == l[jr].sec) = true := by simpa using HSE.out
    have e2 : (l[k].vou == l[jr].vou) = true := by simpa using HVE.out
    clear hs hv'
    have HRk := Lib.hid (show (tabOk l && isRun l ((k : Int) + 1)) = true by
      have h1 : inR ((k : Int) + 1) 1 l.length = true := by simp [inR]; omega
      rw [isRun, h1, thAt_of hkl (show (k : Int) + 1 - 1 = k by omega), HKK.out, HB1.out]; rfl)
    have tr := thAt_of hjl (show (jr : Int) + 1 - 1 = jr by omega)
    have tk := thAt_of hkl (show (k : Int) + 1 - 1 = k by omega)
    have rlr := (run_slots HR.out).1
    have rlk := (run_slots HRk.out).1
    rw [tr] at rlr
    rw [tk] at rlk
    have hjr4 : ja < l[jr].slots.length := by omega
    have hjk4 : ja < l[k].slots.length := by omega
    obtain ⟨rbr, ror, hsar, hBr⟩ := hSr.at hjr4
    obtain ⟨rbk, rok, hsak, hBk⟩ := hSk.at hjk4
    have hnr := hSr.len
    have hnk := hSk.len
    rw [rlr] at hnr
    rw [rlk] at hnk
    have SLR := Lib.hid (show slotAt (thAt l ((jr : Int) + 1)) (ja : Int) = l[jr].slots[ja] by rw [tr]; exact slotAt_of hjr4 rfl)
    have SLK := Lib.hid (show slotAt (thAt l ((k : Int) + 1)) (ja : Int) = l[k].slots[ja] by rw [tk]; exact slotAt_of hjk4 rfl)
    have LB := Lib.hid (show (thAt l ((k : Int) + 1)).sec = (thAt l ((jr : Int) + 1)).sec ∧ (thAt l ((k : Int) + 1)).vou = (thAt l ((jr : Int) + 1)).vou by rw [tr, tk]; exact ⟨HSE.out, HVE.out⟩)
    obtain ⟨sar, snr, scr⟩ := ssr
    obtain ⟨sak, snk, sck⟩ := ssk
    dsimp only at hsar hsak hnr hnk
    subst hsar hsak hnr hnk
    have f5 : wr.cell? ⟨g, jr * 8 + 5, none⟩ = some (.slice (some ⟨rbr, ror, none⟩) 4 scr) := hAr 5 _ rfl
    have f6 : wr.cell? ⟨g, k * 8 + 5, none⟩ = some (.slice (some ⟨rbk, rok, none⟩) 4 sck) := hAk 5 _ rfl
    obtain ⟨xr, hxr⟩ : ∃ x, l[jr].slots[ja] = x := ⟨_, rfl⟩
    obtain ⟨xk, hxk⟩ : ∃ x, l[k].slots[ja] = x := ⟨_, rfl⟩
    rw [hxr] at hBr SLR
    rw [hxk] at hBk SLK
    clear hAr hAk hSr hSk key hxr hxk rlr rlk tr tk
    obtain ⟨p1, p2, p3, p4, p5⟩ := xr
    obtain ⟨n1, n2, n3, n4, n5⟩ := xk
    have h0 : wr.cell? ⟨rbr, ror + ja * 5, none⟩ = some (.int .i64 p1) := hBr 0 _ rfl
    have h1 : wr.cell? ⟨rbr, ror + ja * 5 + 1, none⟩ = some (.int .i64 p2) := hBr 1 _ rfl
    have h2 : wr.cell? ⟨rbr, ror + ja * 5 + 2, none⟩ = some (.bool p3) := hBr 2 _ rfl
    have h3 : wr.cell? ⟨rbr, ror + ja * 5 + 3, none⟩ = some (.bool p4) := hBr 3 _ rfl
    have h4 : wr.cell? ⟨rbr, ror + ja * 5 + 4, none⟩ = some (.bool p5) := hBr 4 _ rfl
    have i0 : wr.cell? ⟨rbk, rok + ja * 5, none⟩ = some (.int .i64 n1) := hBk 0 _ rfl
    have i1 : wr.cell? ⟨rbk, rok + ja * 5 + 1, none⟩ = some (.int .i64 n2) := hBk 1 _ rfl
    have i2 : wr.cell? ⟨rbk, rok + ja * 5 + 2, none⟩ = some (.bool n3) := hBk 2 _ rfl
    have i3 : wr.cell? ⟨rbk, rok + ja * 5 + 3, none⟩ = some (.bool n4) := hBk 3 _ rfl
    have i4 : wr.cell? ⟨rbk, rok + ja * 5 + 4, none⟩ = some (.bool n5) := hBk 4 _ rfl
    clear hBr hBk
    by_cases hq : ¬ n1 = p1
    · have hq' : (n1 == p1) = false := by simpa using hq
      clear hq
      go_upto_region 15 with fail
      go_quiet (fail)
      go_wp2
      go_roundw
      case rel => exact ⟨k + 1, rn, by go_num, by omega, KK.out.drewN _, drewNB BK.out _⟩
      case measure => simp [intOf]; omega
    obtain rfl : n1 = p1 := Classical.not_not.1 hq
    clear hq
    by_cases hq : ¬ n2 = p2
    · have hq' : (n2 == p2) = false := by simpa using hq
      clear hq
      go_upto_region 15 with fail
      go_quiet (fail)
      go_wp2
      go_roundw
      case rel => exact ⟨k + 1, rn, by go_num, by omega, KK.out.drewN _, drewNB BK.out _⟩
      case measure => simp [intOf]; omega
    obtain rfl : n2 = p2 := Classical.not_not.1 hq
    clear hq
    by_cases hq : ¬ n3 = p3
    · have hq' : (n3 == p3) = false := by simpa using hq
      clear hq
      go_upto_region 15 with fail
      go_quiet (fail)
      go_wp2
      go_roundw
      case rel => exact ⟨k + 1, rn, by go_num, by omega, KK.out.drewN _, drewNB BK.out _⟩
      case measure => simp [intOf]; omega
    obtain rfl : n3 = p3 := Classical.not_not.1 hq
    clear hq
    by_cases hq : ¬ n4 = p4
    · have hq' : (n4 == p4) = false := by simpa using hq
      clear hq
      go_upto_region 15 with fail
      go_quiet (fail)
      go_wp2
      go_roundw
      case rel => exact ⟨k + 1, rn, by go_num, by omega, KK.out.drewN _, drewNB BK.out _⟩
      case measure => simp [intOf]; omega
    obtain rfl : n4 = p4 := Classical.not_not.1 hq
    clear hq
    by_cases hq : ¬ n5 = p5
    · have hq' : (n5 == p5) = false := by simpa using hq
      clear hq
      go_upto_region 15 with fail
      go_quiet (fail)
      go_wp2
      go_roundw
      case rel => exact ⟨k + 1, rn, by go_num, by omega, KK.out.drewN _, drewNB BK.out _⟩
      case measure => simp [intOf]; omega
    obtain rfl : n5 = p5 := Classical.not_not.1 hq
    clear hq
    have HC := Lib.hid (show chkV l ⟨ck, (k : Int) + 1, (ja : Int), nb, nn⟩ = v from (chkV_same HR.out HRk.out HB2.out (ok_part HB2.out (by omega) hb0 hn0) LB.out.1 LB.out.2 (SLK.out.trans SLR.out.symm)).trans HV.out)
    go_upto_region 15 with fail
    go_quiet (fail)
    have kq := KK.out.drewN nq
    have tq := drewNB BK.out nq
    obtain ⟨Y, hY⟩ : ∃ Y, wr.drewN nq = Y := ⟨_, rfl⟩
    rw [hY] at kq tq ⊢
    have bD := kq.box (b := y4.heap.size) (T := 37) (vs := C5.cs ⟨ck, rn, (ja : Int), nb, nn⟩) (by simp)
    have j0 := bD.cell 0 _ rfl
    have j1 := bD.cell 1 _ rfl
    have j2 := bD.cell 2 _ rfl
    have j3 := bD.cell 3 _ rfl
    have j4 := bD.cell 4 _ rfl
    have z1' := bD.thaw 1
    have hD : Box (Y.setCell ⟨y4.heap.size, 1, none⟩ (.int .i64 ((k : Int) + 1))) y4.heap.size 37 (C5.cs ⟨ck, (k : Int) + 1, (ja : Int), nb, nn⟩) := by simpa using bD.put 1 (.int .i64 ((k : Int) + 1))
    have hsz : w.heap.size ≤ y4.heap.size := hwy
    have kF : Kn w [(y4.heap.size, 37, C5.cs ⟨ck, (k : Int) + 1, (ja : Int), nb, nn⟩), (y0.heap.size, 37, C5.cs ⟨ck, (jr : Int) + 1, (ja : Int), cbb, cn⟩)] (Y.setCell ⟨y4.heap.size, 1, none⟩ (.int .i64 ((k : Int) + 1))) :=
      ((kq.less (L' := [(y0.heap.size, 37, C5.cs ⟨ck, (jr : Int) + 1, (ja : Int), cbb, cn⟩)]) (by simp)).put (p := ⟨y4.heap.size, 1, none⟩) hsz (fun t ht => by simp at ht; rw [ht]; exact hne.symm) _).also hD
    have bF : Below y4.heap.size y4 (Y.setCell ⟨y4.heap.size, 1, none⟩ (.int .i64 ((k : Int) + 1))) := tq.setCell (p := ⟨y4.heap.size, 1, none⟩) (Nat.le_refl _) _
    have KF := Lib.hid kF
    have BF := Lib.hid bF
    clear kF bF hD bD kq tq hY KK BK TK c1 c2 d0' d1 d2 m1 m2 f5 f6 h0 h1 h2 h3 h4 i0 i1 i2 i3 i4
    go_wp2_with fail
    refine (implCheck_val (s := ⟨some ⟨g, 0, none⟩, l.length, c⟩) (c := ⟨ck, (k : Int) + 1, (ja : Int), nb, nn⟩) HC.out _ (T4.out.stay BF.out) (HF.out.stay KF.out.1) (HE.out.stay KF.out.1) hz).mono ?_
    rintro e x9 ⟨rfl, hb⟩
    have KG := Lib.hid (KF.out.stay hb)
    have BG := Lib.hid (BF.out.trans (hb.mono BF.out.size))
    clear hb KF BF j0 j1 j2 j3 j4 z1'
    go_wp2
    go_roundw
    case rel => exact ⟨k + 1, (k : Int) + 1, by go_num, by omega, KG.out, BG.out⟩
    case measure => simp [intOf]; omega
end Go.Proofs.YtohfincnjhemfaaDoor
