/-
  The walk of laws.FnReadUp.
-/
import Derived.Test.YtohfincnjhemfaaDoorCkM
namespace Go.Proofs.YtohfincnjhemfaaDoor
open Go.RowKit
set_option maxRecDepth 100000
set_option linter.unusedVariables false

set_option maxHeartbeats 8000000 in
theorem walk_FnReadUp (a0 : Option Addr) (len0 cap0 : Nat) (z0 : List Int) (w : World) (hKF : KF w) (hET : ET w) (w0 : IsRow .u8 w a0 len0 cap0 z0) :
    Calls Tryd.prog 11 #[.slice a0 len0 cap0] w fun e w' => e = .returned (.bool true) ∧ Below w.heap.size w w' := by
  by_cases g0 : (1048576 : Int) < (len0 : Int)
  · go_enter Tryd.func11, Tryd.ntmps11
    go_wp2
    go_ret
    exact ⟨rfl, Below.refl _ _⟩
  have W0 := Lib.hid w0
  have HF := Lib.hid hKF
  have HE := Lib.hid hET
  clear w0 hKF hET
  go_enter Tryd.func11, Tryd.ntmps11
  go_wp2_with fail
  refine (drawCC_any a0 len0 cap0 z0 _ W0.out).mono ?_
  rintro e y0 ⟨g, c, l, q, rfl, hT, l3, l8, hzs, hb⟩
  have K0 := Lib.hid ((Kn.start hb).new 37 (C5.cs q))
  have T0 := Lib.hid (hT.stay ((Below.refl _ _).alloc (Nat.le_refl _) (.cells (C5.cs q) 37)))
  have HZS := Lib.hid hzs
  have hz : l.length ≤ 1048576 := by omega
  clear W0 hb hT hzs
  obtain ⟨v, hv⟩ : ∃ v, chkV l q = v := ⟨_, rfl⟩
  have HV := Lib.hid hv
  clear hv
  go_wp2_with fail
  refine (implCheck_val (s := ⟨some ⟨g, 0, none⟩, l.length, c⟩) HV.out _ T0.out (HF.out.stay K0.out.1) (HE.out.stay K0.out.1) hz).mono ?_
  rintro e y1 ⟨rfl, hb⟩
  have K1 := Lib.hid (K0.out.stay hb)
  have T1 := Lib.hid (T0.out.stay hb)
  clear hb K0 T0
  have c0 := K1.out.c (b := y0.heap.size) (T := 37) (vs := C5.cs q) (by simp) 0 _ rfl
  have c1 := K1.out.c (b := y0.heap.size) (T := 37) (vs := C5.cs q) (by simp) 1 _ rfl
  have c2 := K1.out.c (b := y0.heap.size) (T := 37) (vs := C5.cs q) (by simp) 2 _ rfl
  have c3 := K1.out.c (b := y0.heap.size) (T := 37) (vs := C5.cs q) (by simp) 3 _ rfl
  have c4 := K1.out.c (b := y0.heap.size) (T := 37) (vs := C5.cs q) (by simp) 4 _ rfl
  go_wp2_with fail
  refine (specCheck_val (s := ⟨some ⟨g, 0, none⟩, l.length, c⟩) HV.out _ T1.out hz HZS.out).mono ?_
  rintro e y2 ⟨rfl, hb⟩
  have K2 := Lib.hid (K1.out.stay hb)
  have T2 := Lib.hid (T1.out.stay hb)
  clear hb K1 T1 c0 c1 c2 c3 c4
  have c0 := K2.out.c (b := y0.heap.size) (T := 37) (vs := C5.cs q) (by simp) 0 _ rfl
  have c1 := K2.out.c (b := y0.heap.size) (T := 37) (vs := C5.cs q) (by simp) 1 _ rfl
  have c2 := K2.out.c (b := y0.heap.size) (T := 37) (vs := C5.cs q) (by simp) 2 _ rfl
  have c3 := K2.out.c (b := y0.heap.size) (T := 37) (vs := C5.cs q) (by simp) 3 _ rfl
  have c4 := K2.out.c (b := y0.heap.size) (T := 37) (vs := C5.cs q) (by simp) 4 _ rfl
  have fin : ∀ y : World, Kn w [(y0.heap.size, 37, C5.cs q)] y → HasT y ⟨some ⟨g, 0, none⟩, l.length, c⟩ l → Calls Tryd.prog 29 #[.slice (some ⟨g, 0, none⟩) l.length c, .agg #[.int .i64 q.k, .int .i64 q.r, .int .i64 q.a, .int .i64 q.b, .int .i64 q.n]] y fun e y' => e = .returned (.int .i64 v) ∧ Below w.heap.size w y' := fun y hk ht =>
    (specCheck_val (s := ⟨some ⟨g, 0, none⟩, l.length, c⟩) HV.out _ ht hz HZS.out).mono fun e y' h => ⟨h.1, (hk.stay h.2).1⟩
  have FIN := Lib.hid fin
  clear fin
  obtain ⟨b1, hb1⟩ : ∃ b1, tabOk l = b1 := ⟨_, rfl⟩
  have HB1 := Lib.hid hb1
  clear hb1
  go_wp2_with fail
  refine (specTabOk_val' (s := ⟨some ⟨g, 0, none⟩, l.length, c⟩) HB1.out _ T2.out hz HZS.out).mono ?_
  rintro e y3 ⟨rfl, hb⟩
  have K3 := Lib.hid (K2.out.stay hb)
  have T3 := Lib.hid (T2.out.stay hb)
  clear hb K2 T2 c0 c1 c2 c3 c4
  have c0 := K3.out.c (b := y0.heap.size) (T := 37) (vs := C5.cs q) (by simp) 0 _ rfl
  have c1 := K3.out.c (b := y0.heap.size) (T := 37) (vs := C5.cs q) (by simp) 1 _ rfl
  have c2 := K3.out.c (b := y0.heap.size) (T := 37) (vs := C5.cs q) (by simp) 2 _ rfl
  have c3 := K3.out.c (b := y0.heap.size) (T := 37) (vs := C5.cs q) (by simp) 3 _ rfl
  have c4 := K3.out.c (b := y0.heap.size) (T := 37) (vs := C5.cs q) (by simp) 4 _ rfl
  cases b1
  · go_wp2_with fail
    refine (FIN.out _ K3.out T3.out).mono ?_
    rintro e y9 ⟨rfl, hb⟩
    have HB := Lib.hid hb
    clear hb
    go_wp2
    go_ret
    exact ⟨rfl, HB.out⟩
  obtain ⟨b2, hb2⟩ : ∃ b2, q.ok = b2 := ⟨_, rfl⟩
  have HB2 := Lib.hid hb2
  clear hb2
  go_wp2_with fail
  refine (specCallOk_val HB2.out _).mono ?_
  rintro e y4 ⟨rfl, hb⟩
  have K4 := Lib.hid (K3.out.stay hb)
  have T4 := Lib.hid (T3.out.stay hb)
  clear hb K3 T3 c0 c1 c2 c3 c4
  have c0 := K4.out.c (b := y0.heap.size) (T := 37) (vs := C5.cs q) (by simp) 0 _ rfl
  have c1 := K4.out.c (b := y0.heap.size) (T := 37) (vs := C5.cs q) (by simp) 1 _ rfl
  have c2 := K4.out.c (b := y0.heap.size) (T := 37) (vs := C5.cs q) (by simp) 2 _ rfl
  have c3 := K4.out.c (b := y0.heap.size) (T := 37) (vs := C5.cs q) (by simp) 3 _ rfl
  have c4 := K4.out.c (b := y0.heap.size) (T := 37) (vs := C5.cs q) (by simp) 4 _ rfl
  cases b2
  · go_wp2_with fail
    refine (FIN.out _ K4.out T4.out).mono ?_
    rintro e y9 ⟨rfl, hb⟩
    have HB := Lib.hid hb
    clear hb
    go_wp2
    go_ret
    exact ⟨rfl, HB.out⟩
  obtain ⟨k9, o1, o2, o3, o4⟩ := ok_k HB2.out
  by_cases hrl : (l.length : Int) < q.r
  · go_wp2_with fail
    refine (FIN.out _ K4.out T4.out).mono ?_
    rintro e y9 ⟨rfl, hb⟩
    have HB := Lib.hid hb
    clear hb
    go_wp2
    go_ret
    exact ⟨rfl, HB.out⟩
  obtain ⟨jr, hjr⟩ : ∃ j : Nat, q.r - 1 = j := ⟨(q.r - 1).toNat, by omega⟩
  have hjl : jr < l.length := by omega
  have hjl' : (jr : Int) < (l.length : Int) := by omega
  obtain ⟨ck, cr, ca, cbb, cn⟩ := q
  dsimp only at *
  obtain rfl : cr = (jr : Int) + 1 := by omega
  have wj1 : wrap64 ((jr : Int) + 1 - 1) = (jr : Int) := by unfold wrap64; omega
  have wr2 : IntKind.i64.wrap (jr : Int) = (jr : Int) := IntWalk.i64_in _ (by omega)
  have d0 : y4.cell? ⟨g, jr * 8, none⟩ = some (.int .i64 l[jr].kind) := by
    obtain ⟨b, o, e, h⟩ := T4.out.ne hjl
    simp only [Option.some.injEq, Addr.mk.injEq] at e
    obtain ⟨rfl, rfl, -⟩ := e
    obtain ⟨ss, qs, -, -, hA⟩ := h jr hjl
    have := hA 0 _ rfl
    simpa using this
  by_cases hk3 : ¬ l[jr].kind = 3
  · have hk3' : (l[jr].kind == 3) = false := by simpa using hk3
    clear hjr
    go_wp2_with fail
    refine (FIN.out _ K4.out T4.out).mono ?_
    rintro e y9 ⟨rfl, hb⟩
    have HB := Lib.hid hb
    clear hb
    go_wp2
    go_ret
    exact ⟨rfl, HB.out⟩
  have HK3 := Lib.hid (Classical.not_not.1 hk3)
  have d0' : y4.cell? ⟨g, jr * 8, none⟩ = some (.int .i64 3) := by rw [d0, HK3.out]
  clear d0 hk3 hjr HV FIN
  have HR := Lib.hid (show (tabOk l && isRun l ((jr : Int) + 1)) = true by
    have h1 : inR ((jr : Int) + 1) 1 l.length = true := by simp [inR]; omega
    rw [isRun, h1, thAt_of hjl (show (jr : Int) + 1 - 1 = jr by omega), HK3.out, HB1.out]; rfl)
  have HTH := Lib.hid (thAt_of hjl (show (jr : Int) + 1 - 1 = jr by omega))
  obtain ⟨rl, rs⟩ := run_slots HR.out
  rw [HTH.out] at rl rs
  have RS := Lib.hid rs
  clear rs
  go_wp2
  go_loopw [6] (fun i wx => ∃ k : Nat, i = .int .i64 k ∧ k ≤ 4 ∧ Kn w [(y0.heap.size, 37, C5.cs ⟨ck, (jr : Int) + 1, ca, cbb, cn⟩)] wx ∧ HasT wx ⟨some ⟨g, 0, none⟩, l.length, c⟩ l) (fun i _ => 4 - (intOf i).toNat)
  case atStart => exact ⟨0, rfl, by omega, K4.out, T4.out⟩
  case round =>
    clear K4 T4 c0 c1 c2 c3 c4 d0'
    obtain ⟨k, rfl, hk, kK, tK⟩ := hrel
    have KK := Lib.hid kK
    have TK := Lib.hid tK
    clear kK tK
    by_cases hlt : ¬ k < 4
    · have hlt' : ¬ (k : Int) < 4 := by omega
      go_wp2
      go_ret
      exact ⟨rfl, KK.out.1⟩
    have hk4 : k < 4 := by omega
    have hlt' : (k : Int) < 4 := by omega
    have wk : IntKind.i64.wrap (k : Int) = (k : Int) := IntWalk.i64_in _ (by omega)
    have hks : k < l[jr].slots.length := by omega
    obtain ⟨r1', r2'⟩ := RS.out k hks
    obtain ⟨bq, oq, eq_, hTb⟩ := TK.out.ne hjl
    simp only [Option.some.injEq, Addr.mk.injEq] at eq_
    obtain ⟨rfl, rfl, -⟩ := eq_
    obtain ⟨ss, qs, hSS, -, hA⟩ := hTb jr hjl
    obtain ⟨rb, ro, hsa, hB⟩ := hSS.at hks
    have hsn := hSS.len
    rw [rl] at hsn
    obtain ⟨sa, sn, sc⟩ := ss
    dsimp only at hsa hsn
    subst hsa hsn
    have HSL := Lib.hid (slotAt_of hks (show (k : Int) = k from rfl))
    obtain ⟨r, hr⟩ : ∃ r, l[jr].slots[k] = r := ⟨_, rfl⟩
    rw [hr] at hB r1' r2' HSL
    have r0' := R5.bd r1'
    have f5 : wr.cell? ⟨g, jr * 8 + 5, none⟩ = some (.slice (some ⟨rb, ro, none⟩) 4 sc) := by have := hA 5 _ rfl; simpa using this
    obtain ⟨rt, rv, rr, rw_, rk⟩ := r
    dsimp only at *
    have g0' : wr.cell? ⟨rb, ro + k * 5, none⟩ = some (.int .i64 rt) := hB 0 _ rfl
    have g1 : wr.cell? ⟨rb, ro + k * 5 + 1, none⟩ = some (.int .i64 rv) := hB 1 _ rfl
    have g2 : wr.cell? ⟨rb, ro + k * 5 + 2, none⟩ = some (.bool rr) := hB 2 _ rfl
    have g3 : wr.cell? ⟨rb, ro + k * 5 + 3, none⟩ = some (.bool rw_) := hB 3 _ rfl
    have g4 : wr.cell? ⟨rb, ro + k * 5 + 4, none⟩ = some (.bool rk) := hB 4 _ rfl
    have c1 := KK.out.c (b := y0.heap.size) (T := 37) (vs := C5.cs ⟨ck, (jr : Int) + 1, ca, cbb, cn⟩) (by simp) 1 _ rfl
    have lt1 := cell_lt f5
    have lt2 := cell_lt g0'
    have lt3 := cell_lt c1
    clear hA hB hSS hTb hr
    by_cases h0 : rt = 0
    · subst h0
      have KN := Lib.hid (KK.out.new 43 (R5.cs ⟨0, rv, rr, rw_, rk⟩))
      have TN := Lib.hid (TK.out.stay ((Below.refl _ _).alloc (Nat.le_refl _) (.cells (R5.cs ⟨0, rv, rr, rw_, rk⟩) 43)))
      go_wp2
      go_roundw
      case rel => exact ⟨k + 1, by go_num, by omega, KN.out.less (by simp), TN.out⟩
      case measure => simp [intOf]; omega
    obtain ⟨jn, hjn⟩ : ∃ j : Nat, rt - 1 = j := ⟨(rt - 1).toNat, by omega⟩
    have hjn2 : jn < l.length := by omega
    have hjn' : (jn : Int) < (l.length : Int) := by omega
    obtain rfl : rt = (jn : Int) + 1 := by omega
    have t0' : (((jn : Int) + 1) == 0) = false := by simp; omega
    have hin1 : ¬ (jn : Int) + 1 = 0 := by omega
    have wn : wrap64 ((jn : Int) + 1 - 1) = (jn : Int) := by unfold wrap64; omega
    have wn2 : IntKind.i64.wrap (jn : Int) = (jn : Int) := IntWalk.i64_in _ (by omega)
    have e0 : wr.cell? ⟨g, jn * 8, none⟩ = some (.int .i64 l[jn].kind) := by
      obtain ⟨b, o, e, h⟩ := TK.out.ne hjn2
      simp only [Option.some.injEq, Addr.mk.injEq] at e
      obtain ⟨rfl, rfl, -⟩ := e
      obtain ⟨ss, qs, -, -, hA⟩ := h jn hjn2
      have := hA 0 _ rfl
      simpa using this
    have KN := Lib.hid (KK.out.new 43 (R5.cs ⟨(jn : Int) + 1, rv, rr, rw_, rk⟩))
    have TN := Lib.hid (TK.out.stay ((Below.refl _ _).alloc (Nat.le_refl _) (.cells (R5.cs ⟨(jn : Int) + 1, rv, rr, rw_, rk⟩) 43)))
    by_cases hkd : ¬ l[jn].kind = 1
    · have hkd' : (l[jn].kind == 1) = false := by simpa using hkd
      clear hjn h0
      go_wp2
      go_roundw
      case rel => exact ⟨k + 1, by go_num, by omega, KN.out.less (by simp), TN.out⟩
      case measure => simp [intOf]; omega
    have HKD := Lib.hid (Classical.not_not.1 hkd)
    have e0' : wr.cell? ⟨g, jn * 8, none⟩ = some (.int .i64 1) := by rw [e0, HKD.out]
    clear e0 hkd hjn h0
    have HIN := Lib.hid (show inR ((jn : Int) + 1) 1 l.length = true by simp [inR]; omega)
    have HTN := Lib.hid (thAt_of hjn2 (show (jn : Int) + 1 - 1 = jn by omega))
    obtain ⟨u3, e3⟩ : ∃ u, chkSees l ((jr : Int) + 1) ((jn : Int) + 1) = u := ⟨_, rfl⟩
    obtain ⟨u4, e4⟩ : ∃ u, chkTou l ((jr : Int) + 1) ((jn : Int) + 1) = u := ⟨_, rfl⟩
    obtain ⟨v1, ev1⟩ : ∃ v1, chkV l ⟨1, (jr : Int) + 1, (k : Int), 0, 0⟩ = v1 := ⟨_, rfl⟩
    obtain ⟨v2, ev2⟩ : ∃ v2, chkV l ⟨2, (jr : Int) + 1, (k : Int), 0, 0⟩ = v2 := ⟨_, rfl⟩
    have okc : ∀ kk : Int, inR kk 1 9 = true → C5.ok ⟨kk, (jr : Int) + 1, (k : Int), 0, 0⟩ = true := fun kk h => by
      simp only [C5.ok, h, Bool.true_and]
      simp [inR]; omega
    have U1 := Lib.hid (show rr = true → u3 = false → v1 = -2 from fun h1 h2 => by
      rw [← ev1, chkV_go HR.out (okc 1 (by decide)), if_neg (show ¬ (1 : Int) = 3 by decide)]
      dsimp only
      rw [HTH.out, HSL.out, useV_go HIN.out (by dsimp only; rw [HTN.out, HKD.out]; decide) (by simp [needR, needW, h1])]
      dsimp only
      rw [← HTH.out, ← chkSees_run HR.out HIN.out, e3, h2]
      rfl)
    have U2 := Lib.hid (show rw_ = true → u4 = false → v2 = -2 from fun h1 h2 => by
      rw [← ev2, chkV_go HR.out (okc 2 (by decide)), if_neg (show ¬ (2 : Int) = 3 by decide)]
      dsimp only
      rw [HTH.out, HSL.out, useV_go HIN.out (by dsimp only; rw [HTN.out, HKD.out]; decide) (by simp [needR, needW, h1])]
      dsimp only
      rw [← HTH.out, ← chkTou_run HR.out HIN.out, e4, h2]
      simp [needR, needW])
    have E3 := Lib.hid e3
    have E4 := Lib.hid e4
    have EV1 := Lib.hid ev1
    have EV2 := Lib.hid ev2
    clear e3 e4 ev1 ev2 okc HSL r0' r1' r2'
    go_wp2_with fail
    refine (implCheck_val (s := ⟨some ⟨g, 0, none⟩, l.length, c⟩) (c := ⟨1, (jr : Int) + 1, (k : Int), 0, 0⟩) EV1.out _ TN.out (HF.out.stay KN.out.1) (HE.out.stay KN.out.1) hz).mono ?_
    rintro e x1 ⟨rfl, hb⟩
    have K1 := Lib.hid (KN.out.stay hb)
    have T1 := Lib.hid (TN.out.stay hb)
    clear hb KN TN KK TK f5 g0' g1 g2 g3 g4 c1 e0'
    have c1 := K1.out.c (b := y0.heap.size) (T := 37) (vs := C5.cs ⟨ck, (jr : Int) + 1, ca, cbb, cn⟩) (by simp) 1 _ rfl
    have r0 := K1.out.c (b := wr.heap.size) (T := 43) (vs := R5.cs ⟨(jn : Int) + 1, rv, rr, rw_, rk⟩) (by simp) 0 _ rfl
    have r1 := K1.out.c (b := wr.heap.size) (T := 43) (vs := R5.cs ⟨(jn : Int) + 1, rv, rr, rw_, rk⟩) (by simp) 1 _ rfl
    have r2 := K1.out.c (b := wr.heap.size) (T := 43) (vs := R5.cs ⟨(jn : Int) + 1, rv, rr, rw_, rk⟩) (by simp) 2 _ rfl
    have r3 := K1.out.c (b := wr.heap.size) (T := 43) (vs := R5.cs ⟨(jn : Int) + 1, rv, rr, rw_, rk⟩) (by simp) 3 _ rfl
    have r4 := K1.out.c (b := wr.heap.size) (T := 43) (vs := R5.cs ⟨(jn : Int) + 1, rv, rr, rw_, rk⟩) (by simp) 4 _ rfl
    go_wp2_with fail
    refine (implCheck_val (s := ⟨some ⟨g, 0, none⟩, l.length, c⟩) (c := ⟨2, (jr : Int) + 1, (k : Int), 0, 0⟩) EV2.out _ T1.out (HF.out.stay K1.out.1) (HE.out.stay K1.out.1) hz).mono ?_
    rintro e x2 ⟨rfl, hb⟩
    have K2 := Lib.hid (K1.out.stay hb)
    have T2 := Lib.hid (T1.out.stay hb)
    clear hb K1 T1 c1 r0 r1 r2 r3 r4
    clear EV1 EV2 HKD HTN
    have c1 := K2.out.c (b := y0.heap.size) (T := 37) (vs := C5.cs ⟨ck, (jr : Int) + 1, ca, cbb, cn⟩) (by simp) 1 _ rfl
    have r0 := K2.out.c (b := wr.heap.size) (T := 43) (vs := R5.cs ⟨(jn : Int) + 1, rv, rr, rw_, rk⟩) (by simp) 0 _ rfl
    have r1 := K2.out.c (b := wr.heap.size) (T := 43) (vs := R5.cs ⟨(jn : Int) + 1, rv, rr, rw_, rk⟩) (by simp) 1 _ rfl
    have r2 := K2.out.c (b := wr.heap.size) (T := 43) (vs := R5.cs ⟨(jn : Int) + 1, rv, rr, rw_, rk⟩) (by simp) 2 _ rfl
    have r3 := K2.out.c (b := wr.heap.size) (T := 43) (vs := R5.cs ⟨(jn : Int) + 1, rv, rr, rw_, rk⟩) (by simp) 3 _ rfl
    have r4 := K2.out.c (b := wr.heap.size) (T := 43) (vs := R5.cs ⟨(jn : Int) + 1, rv, rr, rw_, rk⟩) (by simp) 4 _ rfl
    cases rr
    · cases rw_
      · go_wp2
        go_roundw
        case rel => exact ⟨k + 1, by go_num, by omega, K2.out.less (by simp), T2.out⟩
        case measure => simp [intOf]; omega
      go_wp2_with fail
      refine (implCheckTouches_val (s := ⟨some ⟨g, 0, none⟩, l.length, c⟩) E4.out _ T2.out (HF.out.stay K2.out.1) hz).mono ?_
      rintro e x4 ⟨rfl, hb⟩
      have KZ := Lib.hid (K2.out.stay hb)
      have TZ := Lib.hid (T2.out.stay hb)
      clear hb c1 r0 r1 r2 r3 r4
      cases u4
      · obtain rfl := U2.out (by simp) (by simp)
        go_wp2
        go_roundw
        case rel => exact ⟨k + 1, by go_num, by omega, KZ.out.less (by simp), TZ.out⟩
        case measure => simp [intOf]; omega
      · go_wp2
        go_roundw
        case rel => exact ⟨k + 1, by go_num, by omega, KZ.out.less (by simp), TZ.out⟩
        case measure => simp [intOf]; omega
    go_wp2_with fail
    refine (implCheckSees_val (s := ⟨some ⟨g, 0, none⟩, l.length, c⟩) E3.out _ T2.out (HF.out.stay K2.out.1) hz).mono ?_
    rintro e x3 ⟨rfl, hb⟩
    have K3 := Lib.hid (K2.out.stay hb)
    have T3 := Lib.hid (T2.out.stay hb)
    clear hb K2 T2 c1 r0 r1 r2 r3 r4
    have c1 := K3.out.c (b := y0.heap.size) (T := 37) (vs := C5.cs ⟨ck, (jr : Int) + 1, ca, cbb, cn⟩) (by simp) 1 _ rfl
    have r0 := K3.out.c (b := wr.heap.size) (T := 43) (vs := R5.cs ⟨(jn : Int) + 1, rv, true, rw_, rk⟩) (by simp) 0 _ rfl
    have r1 := K3.out.c (b := wr.heap.size) (T := 43) (vs := R5.cs ⟨(jn : Int) + 1, rv, true, rw_, rk⟩) (by simp) 1 _ rfl
    have r2 := K3.out.c (b := wr.heap.size) (T := 43) (vs := R5.cs ⟨(jn : Int) + 1, rv, true, rw_, rk⟩) (by simp) 2 _ rfl
    have r3 := K3.out.c (b := wr.heap.size) (T := 43) (vs := R5.cs ⟨(jn : Int) + 1, rv, true, rw_, rk⟩) (by simp) 3 _ rfl
    have r4 := K3.out.c (b := wr.heap.size) (T := 43) (vs := R5.cs ⟨(jn : Int) + 1, rv, true, rw_, rk⟩) (by simp) 4 _ rfl
    cases u3
    · obtain rfl := U1.out (by simp) (by simp)
      cases rw_
      · go_wp2
        go_roundw
        case rel => exact ⟨k + 1, by go_num, by omega, K3.out.less (by simp), T3.out⟩
        case measure => simp [intOf]; omega
      go_wp2_with fail
      refine (implCheckTouches_val (s := ⟨some ⟨g, 0, none⟩, l.length, c⟩) E4.out _ T3.out (HF.out.stay K3.out.1) hz).mono ?_
      rintro e x4 ⟨rfl, hb⟩
      have KZ := Lib.hid (K3.out.stay hb)
      have TZ := Lib.hid (T3.out.stay hb)
      clear hb c1 r0 r1 r2 r3 r4
      cases u4
      · obtain rfl := U2.out (by simp) (by simp)
        go_wp2
        go_roundw
        case rel => exact ⟨k + 1, by go_num, by omega, KZ.out.less (by simp), TZ.out⟩
        case measure => simp [intOf]; omega
      · go_wp2
        go_roundw
        case rel => exact ⟨k + 1, by go_num, by omega, KZ.out.less (by simp), TZ.out⟩
        case measure => simp [intOf]; omega
    cases rw_
    · go_wp2
      go_roundw
      case rel => exact ⟨k + 1, by go_num, by omega, K3.out.less (by simp), T3.out⟩
      case measure => simp [intOf]; omega
    go_wp2_with fail
    refine (implCheckTouches_val (s := ⟨some ⟨g, 0, none⟩, l.length, c⟩) E4.out _ T3.out (HF.out.stay K3.out.1) hz).mono ?_
    rintro e x4 ⟨rfl, hb⟩
    have KZ := Lib.hid (K3.out.stay hb)
    have TZ := Lib.hid (T3.out.stay hb)
    clear hb c1 r0 r1 r2 r3 r4
    cases u4
    · obtain rfl := U2.out (by simp) (by simp)
      go_wp2
      go_roundw
      case rel => exact ⟨k + 1, by go_num, by omega, KZ.out.less (by simp), TZ.out⟩
      case measure => simp [intOf]; omega
    · go_wp2
      go_roundw
      case rel => exact ⟨k + 1, by go_num, by omega, KZ.out.less (by simp), TZ.out⟩
      case measure => simp [intOf]; omega
end Go.Proofs.YtohfincnjhemfaaDoor
