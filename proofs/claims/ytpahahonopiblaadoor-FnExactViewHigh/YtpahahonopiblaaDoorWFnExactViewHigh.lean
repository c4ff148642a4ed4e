/-
  The walk of laws.FnExactViewHigh.
-/
import Derived.Test.YtpahahonopiblaaDoorVwA
import Derived.Test.YtpahahonopiblaaDoorToLab
import Derived.Test.YtpahahonopiblaaDoorEqS
import Derived.Deep.RegionWith
namespace Go.Proofs.YtpahahonopiblaaDoor
open Go.RowKit
set_option linter.unusedVariables false

set_option maxRecDepth 100000 in
set_option maxHeartbeats 2000000 in
theorem walk_FnExactViewHigh (l : List T8) (s : Sl) (n sl vl : Int) (w : World) (hKF : KF w) (ht : HasT w s l) (hn : s.n ≤ maxLen) (hns : ∀ i (h : i < l.length), l[i].slots.length ≤ maxLen ∧ l[i].queue.length ≤ maxLen) :
    Calls Tryd.prog 8 #[.slice s.a s.n s.c, .int .i64 n, lab sl vl] w fun e w' => e = .returned (.bool true) ∧ Below w.heap.size w w' := by
  have K0 := (Kn.refl (w := w)).new 51 #[.int .i64 sl, .int .i64 vl]
  have HF := Lib.hid hKF
  have HT := Lib.hid ht
  clear hKF
  have HC := Lib.hid (szThingS_any l s _ (ht.stay K0.1) hn hns)
  clear ht hn hns
  go_enter Tryd.func8, Tryd.ntmps8
  go_wp2_with fail
  refine HC.out.mono ?_
  rintro e y1 ⟨⟨u, rfl, hu⟩, hb1⟩
  have K1 := K0.stay hb1
  clear HC hb1 K0
  by_cases g : u < 0
  · clear hu
    go_wp2
    go_ret
    exact ⟨rfl, K1.1⟩
  obtain ⟨hz, hzs⟩ : l.length ≤ 1048576 ∧ ∀ i (h : i < l.length), l[i].slots.length ≤ 1048576 ∧ l[i].queue.length ≤ 1048576 := by
    rcases hu with hu | hu
    · exact absurd hu g
    · exact hu
  have HZ := Lib.hid hz
  have HZS := Lib.hid hzs
  have HZ1 := Lib.hid (show ∀ i (h : i < l.length), l[i].slots.length ≤ 1048576 from fun i h => (hzs i h).1)
  have HK1 := Lib.hid K1.drew
  have c0 := K1.c (b := w.heap.size) (T := 51) (vs := #[.int .i64 sl, .int .i64 vl]) (by simp) 0 _ rfl
  have c1 := K1.c (b := w.heap.size) (T := 51) (vs := #[.int .i64 sl, .int .i64 vl]) (by simp) 1 _ rfl
  clear hu hz hzs K1
  go_wp2_with fail
  go_region_with (first
      | (go_at_call 15; refine (toThingS_any l s _ (HT.out.stay HK1.out.1) HZ.out HZS.out).mono ?_; rintro e y2 ⟨⟨s1, rfl, t1⟩, hb2⟩; have HK2 := Lib.hid (HK1.out.stay hb2); have T1 := Lib.hid t1; clear c0 c1; have c0 := HK2.out.c (b := w.heap.size) (T := 51) (vs := #[.int .i64 sl, .int .i64 vl]) (by simp) 0 _ rfl; have c1 := HK2.out.c (b := w.heap.size) (T := 51) (vs := #[.int .i64 sl, .int .i64 vl]) (by simp) 1 _ rfl; clear t1 hb2)
      | (go_at_call 15; refine (toThingS_any l s _ (HT.out.stay HK3.out.1) HZ.out HZS.out).mono ?_; rintro e y2 ⟨⟨s1, rfl, t1⟩, hb2⟩; have HK4 := Lib.hid (HK3.out.stay hb2); have T2 := Lib.hid t1; clear c0 c1; have c0 := HK4.out.c (b := w.heap.size) (T := 51) (vs := #[.int .i64 sl, .int .i64 vl]) (by simp) 0 _ rfl; have c1 := HK4.out.c (b := w.heap.size) (T := 51) (vs := #[.int .i64 sl, .int .i64 vl]) (by simp) 1 _ rfl; clear t1 hb2)
      | (go_at_call 31; refine (toLabel_any sl vl _).mono ?_; rintro e y3 ⟨rfl, hb3⟩; have HK4 := Lib.hid (HK2.out.stay hb3); have T2 := Lib.hid (T1.out.stay hb3); clear c0 c1; have c0 := HK4.out.c (b := w.heap.size) (T := 51) (vs := #[.int .i64 sl, .int .i64 vl]) (by simp) 0 _ rfl; have c1 := HK4.out.c (b := w.heap.size) (T := 51) (vs := #[.int .i64 sl, .int .i64 vl]) (by simp) 1 _ rfl; clear hb3)
      | (go_at_call 31; refine (toLabel_any sl vl _).mono ?_; rintro e y3 ⟨rfl, hb3⟩; have HK3 := Lib.hid (HK1.out.stay hb3); clear c0 c1; have c0 := HK3.out.c (b := w.heap.size) (T := 51) (vs := #[.int .i64 sl, .int .i64 vl]) (by simp) 0 _ rfl; have c1 := HK3.out.c (b := w.heap.size) (T := 51) (vs := #[.int .i64 sl, .int .i64 vl]) (by simp) 1 _ rfl; clear hb3)
      | (go_at_call 27; refine (specHigh_any l s1 n sl vl _ T2.out HZ.out HZ1.out).mono ?_; rintro e y4 ⟨rfl, hb4⟩; have HK5 := Lib.hid (HK4.out.stay hb4); clear c0 c1; have c0 := HK5.out.c (b := w.heap.size) (T := 51) (vs := #[.int .i64 sl, .int .i64 vl]) (by simp) 0 _ rfl; have c1 := HK5.out.c (b := w.heap.size) (T := 51) (vs := #[.int .i64 sl, .int .i64 vl]) (by simp) 1 _ rfl; clear hb4))
  all_goals
    go_wp2_with fail
    refine (toThingS_any l s _ (HT.out.stay HK5.out.1) HZ.out HZS.out).mono ?_
    rintro e z1 ⟨⟨s2, rfl, t1⟩, hb⟩
    have HK6 := Lib.hid (HK5.out.stay hb)
    have T3 := Lib.hid t1
    clear c0 c1
    clear hb t1
    have c0 := HK6.out.c (b := w.heap.size) (T := 51) (vs := #[.int .i64 sl, .int .i64 vl]) (by simp) 0 _ rfl
    have c1 := HK6.out.c (b := w.heap.size) (T := 51) (vs := #[.int .i64 sl, .int .i64 vl]) (by simp) 1 _ rfl
    go_wp2_with fail
    refine (toLabel_any sl vl _).mono ?_
    rintro e z2 ⟨rfl, hb⟩
    have HK7 := Lib.hid (HK6.out.stay hb)
    have T4 := Lib.hid (T3.out.stay hb)
    clear c0 c1
    clear hb
    go_wp2_with fail
    refine (implHigh_any l s2 n sl vl _ T4.out (HF.out.stay HK7.out.1) HZ.out).mono ?_
    rintro e z3 ⟨rfl, hb⟩
    have HK8 := Lib.hid (HK7.out.stay hb)
    have T5 := Lib.hid (T4.out.stay hb)
    clear hb
    generalize highV l n sl vl = b
    cases b
    all_goals
      go_wp2_with fail
      refine (toThingS_any l s _ (HT.out.stay HK8.out.1) HZ.out HZS.out).mono ?_
      rintro e z4 ⟨⟨s3, rfl, t1⟩, hb⟩
      have HK9 := Lib.hid (HK8.out.stay hb)
      have T6 := Lib.hid (T5.out.stay hb)
      have T7 := Lib.hid t1
      clear hb t1
      go_wp2_with fail
      refine (eqThingS_same l s2 s3 _ T6.out T7.out HZ.out HZS.out).mono ?_
      rintro e z5 ⟨rfl, hb⟩
      have HKe := Lib.hid (HK9.out.stay hb)
      clear hb
      go_wp2
      go_ret
      exact ⟨rfl, HKe.out.1⟩
end Go.Proofs.YtpahahonopiblaaDoor
