/-
  The walk of laws.FnTouches.
-/
import Derived.Test.YtohfincnjhemfaaDoorDrawCk
import Derived.Test.YtohfincnjhemfaaDoorChB
namespace Go.Proofs.YtohfincnjhemfaaDoor
open Go.RowKit
set_option maxRecDepth 100000
set_option linter.unusedVariables false

theorem implFlow_val {s v s2 v2 : Int} {b : Bool} (h : flow s v s2 v2 = b) (w : World) :
    Calls Tryd.prog 23 #[lab s v, lab s2 v2] w fun e w' => e = .returned (.bool b) ∧ Below w.heap.size w w' := by
  subst h; exact implFlow_any s v s2 v2 w
theorem sub2_self (a : Int) : sub2 a a = true := by simp [sub2]
theorem flow_self {s v : Int} (h : okL s v = true) : flow s v s v = true := by rw [flow_ok h h, sub2_self, sub2_self]; rfl
theorem sub2_anti {a b : Int} (ha : okN a = true) (hb : okN b = true) : (sub2 a b && sub2 b a) = (a == b) := by
  rcases four a ha with rfl | rfl | rfl | rfl <;> rcases four b hb with rfl | rfl | rfl | rfl <;> decide
theorem flow_anti {s v s2 v2 : Int} (h1 : okL s v = true) (h2 : okL s2 v2 = true) : (flow s v s2 v2 && flow s2 v2 s v) = (s == s2 && v == v2) := by
  have e1 := sub2_anti (okL1 h1) (okL1 h2)
  have e2 := sub2_anti (okL2 h1) (okL2 h2)
  rw [flow_ok h1 h2, flow_ok h2 h1, ← e1, ← e2]
  cases sub2 s s2 <;> cases sub2 s2 s <;> cases sub2 v v2 <;> cases sub2 v2 v <;> rfl

set_option maxHeartbeats 8000000 in
theorem walk_FnTouches (a0 : Option Addr) (len0 cap0 : Nat) (z0 : List Int) (w : World) (hKF : KF w) (w0 : IsRow .u8 w a0 len0 cap0 z0) :
    Calls Tryd.prog 4 #[.slice a0 len0 cap0] w fun e w' => e = .returned (.bool true) ∧ Below w.heap.size w w' := by
  by_cases g0 : (1048576 : Int) < (len0 : Int)
  · go_enter Tryd.func4, Tryd.ntmps4
    go_wp2
    go_ret
    exact ⟨rfl, Below.refl _ _⟩
  have W0 := Lib.hid w0
  have HF := Lib.hid hKF
  clear w0 hKF
  go_enter Tryd.func4, Tryd.ntmps4
  go_wp2_with fail
  refine (drawTou_any a0 len0 cap0 z0 _ W0.out).mono ?_
  rintro e y0 ⟨g, c, l, rn, tn, rfl, hT, l3, l8, hzs, q1, q2, q3, q4, hb⟩
  have K0 := Lib.hid (Kn.start hb)
  have T0 := Lib.hid hT
  have HZS := Lib.hid hzs
  have hz : l.length ≤ 1048576 := by omega
  clear W0 hb hT hzs
  obtain ⟨v, hv⟩ : ∃ v, chkTou l rn tn = v := ⟨_, rfl⟩
  have HV := Lib.hid hv
  clear hv
  go_wp2_with fail
  refine (implCheckTouches_val (s := ⟨some ⟨g, 0, none⟩, l.length, c⟩) HV.out _ T0.out (HF.out.stay K0.out.1) hz).mono ?_
  rintro e y1 ⟨rfl, hb⟩
  have K1 := Lib.hid (K0.out.stay hb)
  have T1 := Lib.hid (T0.out.stay hb)
  clear hb K0 T0
  go_wp2_with fail
  refine (specCheckTouches_val (s := ⟨some ⟨g, 0, none⟩, l.length, c⟩) HV.out _ T1.out hz HZS.out).mono ?_
  rintro e y2 ⟨rfl, hb⟩
  have K2 := Lib.hid (K1.out.stay hb)
  have T2 := Lib.hid (T1.out.stay hb)
  clear hb K1 T1
  obtain ⟨b1, hb1⟩ : ∃ b1, tabOk l = b1 := ⟨_, rfl⟩
  have HB1 := Lib.hid hb1
  clear hb1
  have fin : ∀ y : World, Kn w [] y → HasT y ⟨some ⟨g, 0, none⟩, l.length, c⟩ l → Calls Tryd.prog 26 #[.slice (some ⟨g, 0, none⟩) l.length c, .int .i64 rn, .int .i64 tn] y fun e y' => e = .returned (.bool v) ∧ Below w.heap.size w y' := fun y hk ht =>
    (specCheckTouches_val (s := ⟨some ⟨g, 0, none⟩, l.length, c⟩) HV.out _ ht hz HZS.out).mono fun e y' h => ⟨h.1, (hk.stay h.2).1⟩
  have FIN := Lib.hid fin
  clear fin
  obtain ⟨jr, hjr⟩ : ∃ j : Nat, rn - 1 = j := ⟨(rn - 1).toNat, by omega⟩
  have hjl : jr < l.length := by omega
  have hjl' : (jr : Int) < (l.length : Int) := by omega
  have wr : wrap64 (rn - 1) = (jr : Int) := by unfold wrap64; omega
  have HJ := Lib.hid hjr
  obtain rfl : rn = (jr : Int) + 1 := by omega
  clear hjr
  cases v
  · go_wp2_with fail
    refine (specTabOk_val' (s := ⟨some ⟨g, 0, none⟩, l.length, c⟩) HB1.out _ T2.out hz HZS.out).mono ?_
    rintro e y3 ⟨rfl, hb⟩
    have K3 := Lib.hid (K2.out.stay hb)
    have T3 := Lib.hid (T2.out.stay hb)
    clear hb K2 T2
    cases b1
    · go_wp2_with fail
      refine (FIN.out _ K3.out T3.out).mono ?_
      rintro e y9 ⟨rfl, hb⟩
      have HB := Lib.hid hb
      clear hb
      go_wp2
      go_ret
      exact ⟨rfl, HB.out⟩

    have d0 : y3.cell? ⟨g, jr * 8, none⟩ = some (.int .i64 l[jr].kind) := by
      obtain ⟨b, o, e, h⟩ := T3.out.ne hjl
      simp only [Option.some.injEq, Addr.mk.injEq] at e
      obtain ⟨rfl, rfl, -⟩ := e
      obtain ⟨ss, qs, -, -, hA⟩ := h jr hjl
      have := hA 0 _ rfl
      simpa using this
    by_cases hk3 : ¬ l[jr].kind = 3
    · have hk3' : (l[jr].kind == 3) = false := by simpa using hk3
      go_wp2_with fail
      refine (FIN.out _ K3.out T3.out).mono ?_
      rintro e y9 ⟨rfl, hb⟩
      have HB := Lib.hid hb
      clear hb
      go_wp2
      go_ret
      exact ⟨rfl, HB.out⟩
    have HK3 := Lib.hid (Classical.not_not.1 hk3)
    have d0' : y3.cell? ⟨g, jr * 8, none⟩ = some (.int .i64 3) := by rw [d0, HK3.out]
    clear d0 hk3
    by_cases ht1 : tn < 1
    · go_wp2_with fail
      refine (FIN.out _ K3.out T3.out).mono ?_
      rintro e y9 ⟨rfl, hb⟩
      have HB := Lib.hid hb
      clear hb
      go_wp2
      go_ret
      exact ⟨rfl, HB.out⟩

    by_cases ht2 : (l.length : Int) < tn
    · go_wp2_with fail
      refine (FIN.out _ K3.out T3.out).mono ?_
      rintro e y9 ⟨rfl, hb⟩
      have HB := Lib.hid hb
      clear hb
      go_wp2
      go_ret
      exact ⟨rfl, HB.out⟩

    obtain ⟨jn, hjn⟩ : ∃ j : Nat, tn - 1 = j := ⟨(tn - 1).toNat, by omega⟩
    have hjn2 : jn < l.length := by omega
    have hjn' : (jn : Int) < (l.length : Int) := by omega
    have wn : wrap64 (tn - 1) = (jn : Int) := by unfold wrap64; omega
    obtain rfl : tn = (jn : Int) + 1 := by omega
    have wj : IntKind.i64.wrap (jn : Int) = (jn : Int) := IntWalk.i64_in _ (by omega)
    have wj2 : IntKind.i64.wrap (jr : Int) = (jr : Int) := IntWalk.i64_in _ (by omega)
    clear hjn
    have E0 : Hid (KT w [] ⟨some ⟨g, 0, none⟩, l.length, c⟩ l y3) := Lib.hid ⟨K3.out, T3.out⟩
    have HR := Lib.hid (show isRun l ((jr : Int) + 1) = true by
      have h1 : inR ((jr : Int) + 1) 1 l.length = true := by simp [inR]; omega
      rw [isRun, h1, thAt_of hjl (show (jr : Int) + 1 - 1 = jr by omega), HK3.out]; rfl)
    have O1 := Lib.hid (okT_lab (tab_okT HB1.out hjl))
    have O2 := Lib.hid (okT_lab (tab_okT HB1.out hjn2))
    have hIn : inR ((jn : Int) + 1) 1 l.length = true := by simp [inR]; omega
    have hIr : inR ((jr : Int) + 1) 1 l.length = true := by simp [inR]; omega
    have HS := Lib.hid (show chkSees l ((jr : Int) + 1) ((jn : Int) + 1) = seesT l[jr] l[jn] by
      simp only [chkSees, HB1.out, HR.out, hIn, Bool.true_and]; rw [thAt_of hjl (show (jr : Int) + 1 - 1 = jr by omega), thAt_of hjn2 (show (jn : Int) + 1 - 1 = jn by omega)])
    have HTo := Lib.hid (show chkTou l ((jr : Int) + 1) ((jn : Int) + 1) = touT l[jr] l[jn] by
      simp only [chkTou, HB1.out, HR.out, hIn, Bool.true_and]; rw [thAt_of hjl (show (jr : Int) + 1 - 1 = jr by omega), thAt_of hjn2 (show (jn : Int) + 1 - 1 = jn by omega)])
    have HSS := Lib.hid (show chkSees l ((jr : Int) + 1) ((jr : Int) + 1) = true by
      simp only [chkSees, HB1.out, HR.out, hIr, Bool.true_and]; rw [thAt_of hjl (show (jr : Int) + 1 - 1 = jr by omega)]; exact flow_self O1.out)
    have HTT := Lib.hid (show chkTou l ((jr : Int) + 1) ((jr : Int) + 1) = true by
      simp only [chkTou, HB1.out, HR.out, hIr, Bool.true_and]; rw [thAt_of hjl (show (jr : Int) + 1 - 1 = jr by omega)]; exact flow_self O1.out)
    have key : ∀ (i : Nat) (hi : i < l.length) (zz : Wd (KT w [] ⟨some ⟨g, 0, none⟩, l.length, c⟩ l)), ∃ ss qs, At zz.w g (i * 8) (l[i].cs ss qs) := fun i hi zz => by
      obtain ⟨b', o', e, h⟩ := zz.ok.2.ne hi
      simp only [Option.some.injEq, Addr.mk.injEq] at e
      obtain ⟨rfl, rfl, -⟩ := e
      obtain ⟨ss, qs, -, -, hA⟩ := h i hi
      exact ⟨ss, qs, by simpa using hA⟩
    have KEY := Lib.hid key
    clear key hIn hIr
    have A1 := Lib.hid (fun y => implFlow_val (show flow l[jr].sec l[jr].vou l[jn].sec l[jn].vou = false by have h := HV.out; rw [HTo.out] at h; exact h) y)
    obtain ⟨u, hu⟩ : ∃ u, seesT l[jr] l[jn] = u := ⟨_, rfl⟩
    have HU := Lib.hid hu
    clear hu
    have A2 := Lib.hid (fun zz : Wd (KT w [] ⟨some ⟨g, 0, none⟩, l.length, c⟩ l) => implCheckSees_val (s := ⟨some ⟨g, 0, none⟩, l.length, c⟩) (HS.out.trans HU.out) zz.w zz.ok.2 (HF.out.stay zz.ok.1.1) hz)
    obtain ⟨e1, he1⟩ : ∃ e1, (l[jr].sec == l[jn].sec) = e1 := ⟨_, rfl⟩
    obtain ⟨e2, he2⟩ : ∃ e2, (l[jr].vou == l[jn].vou) = e2 := ⟨_, rfl⟩
    have HX := Lib.hid (show (false && u) = (e1 && e2) by
      have h := flow_anti O1.out O2.out
      have h1 : flow l[jr].sec l[jr].vou l[jn].sec l[jn].vou = false := by have h := HV.out; rw [HTo.out] at h; exact h
      have h2 : flow l[jn].sec l[jn].vou l[jr].sec l[jr].vou = u := HU.out
      rw [h1, h2, he1, he2] at h
      exact h)
    cases e1 <;> cases e2 <;> cases u
    all_goals first
      | (exact absurd HX.out (by decide))
      | skip
    all_goals
      have s1 : ∀ zz : Wd (KT w [] ⟨some ⟨g, 0, none⟩, l.length, c⟩ l), zz.w.cell? ⟨g, jr * 8 + 1, none⟩ = some (.int .i64 l[jr].sec) := fun zz => by obtain ⟨ss, qs, h⟩ := KEY.out jr hjl zz; exact h 1 _ rfl
      have v1 : ∀ zz : Wd (KT w [] ⟨some ⟨g, 0, none⟩, l.length, c⟩ l), zz.w.cell? ⟨g, jr * 8 + 2, none⟩ = some (.int .i64 l[jr].vou) := fun zz => by obtain ⟨ss, qs, h⟩ := KEY.out jr hjl zz; exact h 2 _ rfl
      have s2 : ∀ zz : Wd (KT w [] ⟨some ⟨g, 0, none⟩, l.length, c⟩ l), zz.w.cell? ⟨g, jn * 8 + 1, none⟩ = some (.int .i64 l[jn].sec) := fun zz => by obtain ⟨ss, qs, h⟩ := KEY.out jn hjn2 zz; exact h 1 _ rfl
      have v2 : ∀ zz : Wd (KT w [] ⟨some ⟨g, 0, none⟩, l.length, c⟩ l), zz.w.cell? ⟨g, jn * 8 + 2, none⟩ = some (.int .i64 l[jn].vou) := fun zz => by obtain ⟨ss, qs, h⟩ := KEY.out jn hjn2 zz; exact h 2 _ rfl
      have ne : Nonempty (Wd (KT w [] ⟨some ⟨g, 0, none⟩, l.length, c⟩ l)) := ⟨⟨_, E0.out.drew⟩⟩
      go_upto_region 7 with fail
      clear d0' K3 T3 KEY FIN HS HTo HSS HTT O1 O2 HU HR HK3 HV
      generalize l[jr] = zr at *
      generalize l[jn] = zn at *
      refine wp_region_quiet (C := fun y => ∃ zz : Wd (KT w [] ⟨some ⟨g, 0, none⟩, l.length, c⟩ l), y = zz.w) (by kernel_rfl) (by kernel_rfl) ⟨⟨_, E0.out.drew⟩, rfl⟩ ?_
      show wpQuiet _ _ _ _ [_, _, _, _, _, _, _, _, _, _, _, _, _, _, _, _, _, _, _, _, _, _, _, _, _, _, _, _, _, _, _, _, _, _, _, _, _, _, _] _
      repeat (first | go_big_quiet_step ((go_at_call 23; exact inCls KT.stay (A1.out _))) | quiet_step ((go_at_call 23; exact inCls KT.stay (A1.out _))))
      refine wpQuiet_nil ?_
      rintro _ ⟨t3, rfl⟩
      clear ne s1 v1 s2 v2
      obtain ⟨y5, D5⟩ := t3
      dsimp only
      go_wp2
      go_ret
      exact ⟨rfl, D5.1.1⟩
  · go_wp2_with fail
    refine (specTabOk_val' (s := ⟨some ⟨g, 0, none⟩, l.length, c⟩) HB1.out _ T2.out hz HZS.out).mono ?_
    rintro e y3 ⟨rfl, hb⟩
    have K3 := Lib.hid (K2.out.stay hb)
    have T3 := Lib.hid (T2.out.stay hb)
    clear hb K2 T2
    cases b1
    · go_wp2_with fail
      refine (FIN.out _ K3.out T3.out).mono ?_
      rintro e y9 ⟨rfl, hb⟩
      have HB := Lib.hid hb
      clear hb
      go_wp2
      go_ret
      exact ⟨rfl, HB.out⟩

    have d0 : y3.cell? ⟨g, jr * 8, none⟩ = some (.int .i64 l[jr].kind) := by
      obtain ⟨b, o, e, h⟩ := T3.out.ne hjl
      simp only [Option.some.injEq, Addr.mk.injEq] at e
      obtain ⟨rfl, rfl, -⟩ := e
      obtain ⟨ss, qs, -, -, hA⟩ := h jr hjl
      have := hA 0 _ rfl
      simpa using this
    by_cases hk3 : ¬ l[jr].kind = 3
    · have hk3' : (l[jr].kind == 3) = false := by simpa using hk3
      go_wp2_with fail
      refine (FIN.out _ K3.out T3.out).mono ?_
      rintro e y9 ⟨rfl, hb⟩
      have HB := Lib.hid hb
      clear hb
      go_wp2
      go_ret
      exact ⟨rfl, HB.out⟩
    have HK3 := Lib.hid (Classical.not_not.1 hk3)
    have d0' : y3.cell? ⟨g, jr * 8, none⟩ = some (.int .i64 3) := by rw [d0, HK3.out]
    clear d0 hk3
    by_cases ht1 : tn < 1
    · go_wp2_with fail
      refine (FIN.out _ K3.out T3.out).mono ?_
      rintro e y9 ⟨rfl, hb⟩
      have HB := Lib.hid hb
      clear hb
      go_wp2
      go_ret
      exact ⟨rfl, HB.out⟩

    by_cases ht2 : (l.length : Int) < tn
    · go_wp2_with fail
      refine (FIN.out _ K3.out T3.out).mono ?_
      rintro e y9 ⟨rfl, hb⟩
      have HB := Lib.hid hb
      clear hb
      go_wp2
      go_ret
      exact ⟨rfl, HB.out⟩

    obtain ⟨jn, hjn⟩ : ∃ j : Nat, tn - 1 = j := ⟨(tn - 1).toNat, by omega⟩
    have hjn2 : jn < l.length := by omega
    have hjn' : (jn : Int) < (l.length : Int) := by omega
    have wn : wrap64 (tn - 1) = (jn : Int) := by unfold wrap64; omega
    obtain rfl : tn = (jn : Int) + 1 := by omega
    have wj : IntKind.i64.wrap (jn : Int) = (jn : Int) := IntWalk.i64_in _ (by omega)
    have wj2 : IntKind.i64.wrap (jr : Int) = (jr : Int) := IntWalk.i64_in _ (by omega)
    clear hjn
    have E0 : Hid (KT w [] ⟨some ⟨g, 0, none⟩, l.length, c⟩ l y3) := Lib.hid ⟨K3.out, T3.out⟩
    have HR := Lib.hid (show isRun l ((jr : Int) + 1) = true by
      have h1 : inR ((jr : Int) + 1) 1 l.length = true := by simp [inR]; omega
      rw [isRun, h1, thAt_of hjl (show (jr : Int) + 1 - 1 = jr by omega), HK3.out]; rfl)
    have O1 := Lib.hid (okT_lab (tab_okT HB1.out hjl))
    have O2 := Lib.hid (okT_lab (tab_okT HB1.out hjn2))
    have hIn : inR ((jn : Int) + 1) 1 l.length = true := by simp [inR]; omega
    have hIr : inR ((jr : Int) + 1) 1 l.length = true := by simp [inR]; omega
    have HS := Lib.hid (show chkSees l ((jr : Int) + 1) ((jn : Int) + 1) = seesT l[jr] l[jn] by
      simp only [chkSees, HB1.out, HR.out, hIn, Bool.true_and]; rw [thAt_of hjl (show (jr : Int) + 1 - 1 = jr by omega), thAt_of hjn2 (show (jn : Int) + 1 - 1 = jn by omega)])
    have HTo := Lib.hid (show chkTou l ((jr : Int) + 1) ((jn : Int) + 1) = touT l[jr] l[jn] by
      simp only [chkTou, HB1.out, HR.out, hIn, Bool.true_and]; rw [thAt_of hjl (show (jr : Int) + 1 - 1 = jr by omega), thAt_of hjn2 (show (jn : Int) + 1 - 1 = jn by omega)])
    have HSS := Lib.hid (show chkSees l ((jr : Int) + 1) ((jr : Int) + 1) = true by
      simp only [chkSees, HB1.out, HR.out, hIr, Bool.true_and]; rw [thAt_of hjl (show (jr : Int) + 1 - 1 = jr by omega)]; exact flow_self O1.out)
    have HTT := Lib.hid (show chkTou l ((jr : Int) + 1) ((jr : Int) + 1) = true by
      simp only [chkTou, HB1.out, HR.out, hIr, Bool.true_and]; rw [thAt_of hjl (show (jr : Int) + 1 - 1 = jr by omega)]; exact flow_self O1.out)
    have key : ∀ (i : Nat) (hi : i < l.length) (zz : Wd (KT w [] ⟨some ⟨g, 0, none⟩, l.length, c⟩ l)), ∃ ss qs, At zz.w g (i * 8) (l[i].cs ss qs) := fun i hi zz => by
      obtain ⟨b', o', e, h⟩ := zz.ok.2.ne hi
      simp only [Option.some.injEq, Addr.mk.injEq] at e
      obtain ⟨rfl, rfl, -⟩ := e
      obtain ⟨ss, qs, -, -, hA⟩ := h i hi
      exact ⟨ss, qs, by simpa using hA⟩
    have KEY := Lib.hid key
    clear key hIn hIr
    have A1 := Lib.hid (fun y => implFlow_val (show flow l[jr].sec l[jr].vou l[jn].sec l[jn].vou = true by have h := HV.out; rw [HTo.out] at h; exact h) y)
    obtain ⟨u, hu⟩ : ∃ u, seesT l[jr] l[jn] = u := ⟨_, rfl⟩
    have HU := Lib.hid hu
    clear hu
    have A2 := Lib.hid (fun zz : Wd (KT w [] ⟨some ⟨g, 0, none⟩, l.length, c⟩ l) => implCheckSees_val (s := ⟨some ⟨g, 0, none⟩, l.length, c⟩) (HS.out.trans HU.out) zz.w zz.ok.2 (HF.out.stay zz.ok.1.1) hz)
    obtain ⟨e1, he1⟩ : ∃ e1, (l[jr].sec == l[jn].sec) = e1 := ⟨_, rfl⟩
    obtain ⟨e2, he2⟩ : ∃ e2, (l[jr].vou == l[jn].vou) = e2 := ⟨_, rfl⟩
    have HX := Lib.hid (show (true && u) = (e1 && e2) by
      have h := flow_anti O1.out O2.out
      have h1 : flow l[jr].sec l[jr].vou l[jn].sec l[jn].vou = true := by have h := HV.out; rw [HTo.out] at h; exact h
      have h2 : flow l[jn].sec l[jn].vou l[jr].sec l[jr].vou = u := HU.out
      rw [h1, h2, he1, he2] at h
      exact h)
    cases e1 <;> cases e2 <;> cases u
    all_goals first
      | (exact absurd HX.out (by decide))
      | skip
    all_goals
      have s1 : ∀ zz : Wd (KT w [] ⟨some ⟨g, 0, none⟩, l.length, c⟩ l), zz.w.cell? ⟨g, jr * 8 + 1, none⟩ = some (.int .i64 l[jr].sec) := fun zz => by obtain ⟨ss, qs, h⟩ := KEY.out jr hjl zz; exact h 1 _ rfl
      have v1 : ∀ zz : Wd (KT w [] ⟨some ⟨g, 0, none⟩, l.length, c⟩ l), zz.w.cell? ⟨g, jr * 8 + 2, none⟩ = some (.int .i64 l[jr].vou) := fun zz => by obtain ⟨ss, qs, h⟩ := KEY.out jr hjl zz; exact h 2 _ rfl
      have s2 : ∀ zz : Wd (KT w [] ⟨some ⟨g, 0, none⟩, l.length, c⟩ l), zz.w.cell? ⟨g, jn * 8 + 1, none⟩ = some (.int .i64 l[jn].sec) := fun zz => by obtain ⟨ss, qs, h⟩ := KEY.out jn hjn2 zz; exact h 1 _ rfl
      have v2 : ∀ zz : Wd (KT w [] ⟨some ⟨g, 0, none⟩, l.length, c⟩ l), zz.w.cell? ⟨g, jn * 8 + 2, none⟩ = some (.int .i64 l[jn].vou) := fun zz => by obtain ⟨ss, qs, h⟩ := KEY.out jn hjn2 zz; exact h 2 _ rfl
      have ne : Nonempty (Wd (KT w [] ⟨some ⟨g, 0, none⟩, l.length, c⟩ l)) := ⟨⟨_, E0.out.drew⟩⟩
      go_upto_region 7 with fail
      clear d0' K3 T3 KEY FIN HS HTo HSS HTT O1 O2 HU HR HK3 HV
      generalize l[jr] = zr at *
      generalize l[jn] = zn at *
      refine wp_region_quiet (C := fun y => ∃ zz : Wd (KT w [] ⟨some ⟨g, 0, none⟩, l.length, c⟩ l), y = zz.w) (by kernel_rfl) (by kernel_rfl) ⟨⟨_, E0.out.drew⟩, rfl⟩ ?_
      show wpQuiet _ _ _ _ [_, _, _, _, _, _, _, _, _, _, _, _, _, _, _, _, _, _, _, _, _, _, _, _, _, _, _, _, _, _, _, _, _, _, _, _, _, _, _] _
      repeat (first | go_big_quiet_step ((first | (go_at_call 23; exact inCls KT.stay (A1.out _)) | (go_at_call 20; exact inCls KT.stay (A2.out _)))) | quiet_step ((first | (go_at_call 23; exact inCls KT.stay (A1.out _)) | (go_at_call 20; exact inCls KT.stay (A2.out _)))))
      refine wpQuiet_nil ?_
      rintro _ ⟨t3, rfl⟩
      clear ne s1 v1 s2 v2
      obtain ⟨y5, D5⟩ := t3
      dsimp only
      go_wp2
      go_ret
      exact ⟨rfl, D5.1.1⟩
end Go.Proofs.YtohfincnjhemfaaDoor
