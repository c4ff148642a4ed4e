/-
  The walk of laws.FnViewHigh.
-/
import Derived.Test.YtpahahonopiblaaDoorDrawVH
import Derived.Test.YtpahahonopiblaaDoorVwA
namespace Go.Proofs.YtpahahonopiblaaDoor
open Go.RowKit
set_option maxRecDepth 100000
set_option linter.unusedVariables false

theorem beq_self_b (v : Bool) : (v == v) = true := by simp
theorem bne_self_b (v : Bool) : (v != v) = false := by simp

set_option maxHeartbeats 8000000 in
theorem walk_FnViewHigh (a0 : Option Addr) (len0 cap0 : Nat) (z0 : List Int) (w : World) (hKF : KF w) (w0 : IsRow .u8 w a0 len0 cap0 z0) :
    Calls Tryd.prog 7 #[.slice a0 len0 cap0] w fun e w' => e = .returned (.bool true) ∧ Below w.heap.size w w' := by
  by_cases g0 : (1048576 : Int) < (len0 : Int)
  · go_enter Tryd.func7, Tryd.ntmps7
    go_wp2
    go_ret
    exact ⟨rfl, Below.refl _ _⟩
  have W0 := Lib.hid w0
  have HF := Lib.hid hKF
  clear w0 hKF
  go_enter Tryd.func7, Tryd.ntmps7
  go_wp2_with fail
  refine (drawHigh_any a0 len0 cap0 z0 _ W0.out).mono ?_
  rintro e y0 ⟨g, c, l, n, sl, vl, rfl, hT, l3, l8, hzs, q1, q2, hb⟩
  have K0 := Lib.hid ((Kn.start hb).new 33 #[.int .i64 sl, .int .i64 vl])
  have T0 := Lib.hid (hT.stay ((Below.refl _ _).alloc (Nat.le_refl _) (.cells #[.int .i64 sl, .int .i64 vl] 33)))
  have HZS := Lib.hid hzs
  have hz : l.length ≤ 1048576 := by omega
  clear W0 hb hT hzs
  obtain ⟨v, hv⟩ : ∃ v, highV l n sl vl = v := ⟨_, rfl⟩
  have HV := Lib.hid hv
  clear hv
  have vv : (v == v) = true := beq_self_b v
  have vn : (v != v) = false := bne_self_b v
  go_wp2_with fail
  refine (implHigh_val (s := ⟨some ⟨g, 0, none⟩, l.length, c⟩) HV.out _ T0.out (HF.out.stay K0.out.1) hz).mono ?_
  rintro e y1 ⟨rfl, hb⟩
  have K1 := Lib.hid (K0.out.stay hb)
  have T1 := Lib.hid (T0.out.stay hb)
  clear hb K0 T0
  have c0 := K1.out.c (b := y0.heap.size) (T := 33) (vs := #[.int .i64 sl, .int .i64 vl]) (by simp) 0 _ rfl
  have c1 := K1.out.c (b := y0.heap.size) (T := 33) (vs := #[.int .i64 sl, .int .i64 vl]) (by simp) 1 _ rfl
  go_wp2_with fail
  refine (specHigh_val (s := ⟨some ⟨g, 0, none⟩, l.length, c⟩) HV.out _ T1.out hz HZS.out).mono ?_
  rintro e y2 ⟨rfl, hb⟩
  have K2 := Lib.hid (K1.out.stay hb)
  have T2 := Lib.hid (T1.out.stay hb)
  clear hb K1 T1 c0 c1
  have FIN := Lib.hid (fun (y : World) (hk : Kn w [(y0.heap.size, 33, #[.int .i64 sl, .int .i64 vl])] y) (ht : HasT y ⟨some ⟨g, 0, none⟩, l.length, c⟩ l) =>
    (specHigh_val (s := ⟨some ⟨g, 0, none⟩, l.length, c⟩) HV.out _ ht hz HZS.out).mono fun e y' h => (⟨h.1, (hk.stay h.2).1⟩ : e = .returned (.bool v) ∧ Below w.heap.size w y'))
  obtain ⟨b1, hb1⟩ : ∃ b1, tabOk l = b1 := ⟨_, rfl⟩
  have HB1 := Lib.hid hb1
  clear hb1
  go_wp2_with fail
  refine (specTabOk_val' (s := ⟨some ⟨g, 0, none⟩, l.length, c⟩) HB1.out _ T2.out hz HZS.out).mono ?_
  rintro e y3 ⟨rfl, hb⟩
  have K3 := Lib.hid (K2.out.stay hb)
  have T3 := Lib.hid (T2.out.stay hb)
  clear hb K2 T2
  have c0 := K3.out.c (b := y0.heap.size) (T := 33) (vs := #[.int .i64 sl, .int .i64 vl]) (by simp) 0 _ rfl
  have c1 := K3.out.c (b := y0.heap.size) (T := 33) (vs := #[.int .i64 sl, .int .i64 vl]) (by simp) 1 _ rfl
  cases b1
  · go_wp2_with fail
    refine (FIN.out _ K3.out T3.out).mono ?_
    rintro e y9 ⟨rfl, hb⟩
    have HB := Lib.hid hb
    clear hb
    go_wp2
    go_ret
    exact ⟨rfl, HB.out⟩
  go_wp2_with fail
  refine (specOk_any sl vl _).mono ?_
  rintro e y4 ⟨rfl, hb⟩
  have K4 := Lib.hid (K3.out.stay hb)
  have T4 := Lib.hid (T3.out.stay hb)
  clear hb K3 T3 c0 c1
  have c0 := K4.out.c (b := y0.heap.size) (T := 33) (vs := #[.int .i64 sl, .int .i64 vl]) (by simp) 0 _ rfl
  have c1 := K4.out.c (b := y0.heap.size) (T := 33) (vs := #[.int .i64 sl, .int .i64 vl]) (by simp) 1 _ rfl
  cases h2 : okL sl vl
  · go_wp2_with fail
    refine (FIN.out _ K4.out T4.out).mono ?_
    rintro e y9 ⟨rfl, hb⟩
    have HB := Lib.hid hb
    clear hb
    go_wp2
    go_ret
    exact ⟨rfl, HB.out⟩
  have H2 := Lib.hid h2
  clear h2
  by_cases ht2 : (l.length : Int) < n
  · go_wp2_with fail
    refine (FIN.out _ K4.out T4.out).mono ?_
    rintro e y9 ⟨rfl, hb⟩
    have HB := Lib.hid hb
    clear hb
    go_wp2
    go_ret
    exact ⟨rfl, HB.out⟩
  obtain ⟨jn, hjn⟩ : ∃ j : Nat, n - 1 = j := ⟨(n - 1).toNat, by omega⟩
  have hjn2 : jn < l.length := by omega
  have hjn' : (jn : Int) < (l.length : Int) := by omega
  have wn : wrap64 (n - 1) = (jn : Int) := by unfold wrap64; omega
  have wj : IntKind.i64.wrap (jn : Int) = (jn : Int) := IntWalk.i64_in _ (by omega)
  obtain rfl : n = (jn : Int) + 1 := by omega
  have hIn : inR ((jn : Int) + 1) 1 l.length = true := by simp [inR]; omega
  have HS := Lib.hid (show v = !seesL l[jn] sl vl by
    have h := HV.out
    simp only [highV, HB1.out, H2.out, hIn, Bool.true_and] at h
    rw [thAt_of hjn2 (show (jn : Int) + 1 - 1 = jn by omega)] at h
    exact h.symm)
  have E0 : Hid (KT w [(y0.heap.size, 33, #[.int .i64 sl, .int .i64 vl])] ⟨some ⟨g, 0, none⟩, l.length, c⟩ l y4) := Lib.hid ⟨K4.out, T4.out⟩
  have key : ∀ (zz : Wd (KT w [(y0.heap.size, 33, #[.int .i64 sl, .int .i64 vl])] ⟨some ⟨g, 0, none⟩, l.length, c⟩ l)), ∃ ss qs, At zz.w g (jn * 8) (l[jn].cs ss qs) := fun zz => by
    obtain ⟨b', o', e, h⟩ := zz.ok.2.ne hjn2
    simp only [Option.some.injEq, Addr.mk.injEq] at e
    obtain ⟨rfl, rfl, -⟩ := e
    obtain ⟨ss, qs, -, -, hA⟩ := h jn hjn2
    exact ⟨ss, qs, by simpa using hA⟩
  have A1 := Lib.hid (fun y => implFlow_any l[jn].sec l[jn].vou sl vl y)
  have s1 : ∀ zz : Wd (KT w [(y0.heap.size, 33, #[.int .i64 sl, .int .i64 vl])] ⟨some ⟨g, 0, none⟩, l.length, c⟩ l), zz.w.cell? ⟨g, jn * 8 + 1, none⟩ = some (.int .i64 l[jn].sec) := fun zz => by obtain ⟨ss, qs, h⟩ := key zz; exact h 1 _ rfl
  have v1 : ∀ zz : Wd (KT w [(y0.heap.size, 33, #[.int .i64 sl, .int .i64 vl])] ⟨some ⟨g, 0, none⟩, l.length, c⟩ l), zz.w.cell? ⟨g, jn * 8 + 2, none⟩ = some (.int .i64 l[jn].vou) := fun zz => by obtain ⟨ss, qs, h⟩ := key zz; exact h 2 _ rfl
  have s2 := fun zz : Wd (KT w [(y0.heap.size, 33, #[.int .i64 sl, .int .i64 vl])] ⟨some ⟨g, 0, none⟩, l.length, c⟩ l) => zz.ok.1.c (b := y0.heap.size) (T := 33) (vs := #[.int .i64 sl, .int .i64 vl]) (by simp) 0 _ rfl
  have v2 := fun zz : Wd (KT w [(y0.heap.size, 33, #[.int .i64 sl, .int .i64 vl])] ⟨some ⟨g, 0, none⟩, l.length, c⟩ l) => zz.ok.1.c (b := y0.heap.size) (T := 33) (vs := #[.int .i64 sl, .int .i64 vl]) (by simp) 1 _ rfl
  have ne : Nonempty (Wd (KT w [(y0.heap.size, 33, #[.int .i64 sl, .int .i64 vl])] ⟨some ⟨g, 0, none⟩, l.length, c⟩ l)) := ⟨⟨_, E0.out.drew⟩⟩
  clear key FIN hjn hIn
  go_upto_region 7 with fail
  clear c0 c1 K4 T4
  have hS : Hid (v = !flow l[jn].sec l[jn].vou sl vl) := HS
  clear HS
  generalize l[jn] = zn at *
  obtain ⟨fl, hfl⟩ : ∃ fl, flow zn.sec zn.vou sl vl = fl := ⟨_, rfl⟩
  rw [hfl] at A1 hS
  have hvf := hS.out
  subst hvf
  have ff : ((!fl) == (!fl)) = true := beq_self_b _
  clear hfl hS HV vv vn
  refine wp_region_quiet (C := fun y => ∃ zz : Wd (KT w [(y0.heap.size, 33, #[.int .i64 sl, .int .i64 vl])] ⟨some ⟨g, 0, none⟩, l.length, c⟩ l), y = zz.w) (by kernel_rfl) (by kernel_rfl) ⟨⟨_, E0.out.drew⟩, rfl⟩ ?_
  show wpQuiet _ _ _ _ [_, _, _, _, _, _, _, _, _, _, _, _] _
  repeat (first | go_big_quiet_step ((go_at_call 30; exact inCls KT.stay (A1.out _))) | quiet_step ((go_at_call 30; exact inCls KT.stay (A1.out _))))
  refine wpQuiet_nil ?_
  rintro _ ⟨⟨y5, D5⟩, rfl⟩
  have HD5 := Lib.hid D5
  clear ne s1 v1 s2 v2 D5
  go_wp2
  go_ret
  exact ⟨by cases fl <;> rfl, HD5.out.1.1⟩
end Go.Proofs.YtpahahonopiblaaDoor
