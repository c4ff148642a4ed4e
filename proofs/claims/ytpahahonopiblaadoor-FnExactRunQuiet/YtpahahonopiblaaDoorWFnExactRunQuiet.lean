/-
  The walk of laws.FnExactRunQuiet.
-/
import Derived.Test.YtpahahonopiblaaDoorRqI
import Derived.Test.YtpahahonopiblaaDoorSzT
import Derived.Test.YtpahahonopiblaaDoorToLab
import Derived.Deep.RegionWith
import Derived.Deep.DeepCutAuto
namespace Go.Proofs.YtpahahonopiblaaDoor
open Go.RowKit
set_option linter.unusedVariables false

theorem szV_ok {L : Int} {n : Nat} (h : ¬ szV L n < 0) (hL : L ≤ 1048576) : n ≤ 1048576 := by
  have := (szV_le h).2
  omega
set_option maxRecDepth 100000 in
set_option maxHeartbeats 4000000 in
theorem walk_FnExactRunQuiet (l : List T8) (s : Sl) (q : List C5) (t : Sl) (sl vl : Int) (w : World) (hKF : KF w) (ht : HasT w s l) (hn : s.n ≤ maxLen) (hns : ∀ i (h : i < l.length), l[i].slots.length ≤ maxLen ∧ l[i].queue.length ≤ maxLen) (hq : HasC w t q) (hm : t.n ≤ maxLen) :
    Calls Tryd.prog 10 #[.slice s.a s.n s.c, .slice t.a t.n t.c, lab sl vl] w fun e w' => e = .returned (.bool true) ∧ Below w.heap.size w w' := by
  have K0 := (Kn.refl (w := w)).new 51 #[.int .i64 sl, .int .i64 vl]
  have HF := Lib.hid hKF
  have HT := Lib.hid ht
  have HQ := Lib.hid hq
  clear hKF
  have HC := Lib.hid (szThingS2_any l s _ (ht.stay K0.1) hn hns)
  have HQL := Lib.hid hq.len
  clear ht hn hns hq
  go_enter Tryd.func10, Tryd.ntmps10
  go_wp2_with fail
  refine HC.out.mono ?_
  rintro e y1 ⟨⟨u, rfl, hu⟩, hb1⟩
  have K1 := K0.stay hb1
  clear HC hb1 K0
  by_cases g : u < 0
  · clear hu
    go_wp2
    go_ret
    exact ⟨rfl, K1.1⟩
  obtain ⟨hul, hz, hzs⟩ : u ≤ 1048576 ∧ l.length ≤ 1048576 ∧ ∀ i (h : i < l.length), l[i].slots.length ≤ 1048576 ∧ l[i].queue.length ≤ 1048576 := by
    rcases hu with hu | hu
    · exact absurd hu g
    · exact hu
  have HS := Lib.hid (fun y => szCallS_any t u y hm (by omega) hul)
  have HUL := Lib.hid hul
  have HZ := Lib.hid hz
  have HZS := Lib.hid hzs
  have HZ1 := Lib.hid (show ∀ i (h : i < l.length), l[i].slots.length ≤ 1048576 from fun i h => (hzs i h).1)
  have HK1 := Lib.hid K1
  clear hu hz hzs K1 hul
  go_wp2_with fail
  refine (HS.out _).mono ?_
  rintro e y1 ⟨rfl, rfl⟩
  clear HS
  have HSV := Lib.hid (fun g2 : ¬ szV u t.n < 0 => szV_ok g2 HUL.out)
  generalize szV u t.n = u2 at *
  by_cases g2 : u2 < 0
  · go_wp2
    go_ret
    exact ⟨rfl, HK1.out.1⟩
  have HQZ := Lib.hid (show q.length ≤ 1048576 by rw [← HQL.out]; exact HSV.out g2)
  clear HSV HUL
  go_upto_region 8 with fail
  go_cut [8] (fun v wx => v = .bool (quietV l q sl vl) ∧ Kn w [(w.heap.size, 51, #[.int .i64 sl, .int .i64 vl])] wx)
  case first =>
    have HK := Lib.hid HK1.out.drew
    have c0 := HK1.out.c (b := w.heap.size) (T := 51) (vs := #[.int .i64 sl, .int .i64 vl]) (by simp) 0 _ rfl
    have c1 := HK1.out.c (b := w.heap.size) (T := 51) (vs := #[.int .i64 sl, .int .i64 vl]) (by simp) 1 _ rfl
    go_region_with (first
      | (go_at_call 15; refine (toThingS_any l s _ (HT.out.stay HK.out.1) HZ.out HZS.out).mono ?_; rintro e y ⟨⟨s1, rfl, t1⟩, hb⟩; have HK := Lib.hid (HK.out.stay hb); (try have C1 := Lib.hid (C1.out.stay hb)); have T1 := Lib.hid t1; clear c0 c1 hb t1; have c0 := HK.out.c (b := w.heap.size) (T := 51) (vs := #[.int .i64 sl, .int .i64 vl]) (by simp) 0 _ rfl; have c1 := HK.out.c (b := w.heap.size) (T := 51) (vs := #[.int .i64 sl, .int .i64 vl]) (by simp) 1 _ rfl)
      | (go_at_call 34; refine (toCallS_any q t _ (HQ.out.stay HK.out.1) HQZ.out).mono ?_; rintro e y ⟨⟨t1, rfl, k1, -⟩, hb⟩; have HK := Lib.hid (HK.out.stay hb); (try have T1 := Lib.hid (T1.out.stay hb)); have C1 := Lib.hid k1; clear c0 c1 hb k1; have c0 := HK.out.c (b := w.heap.size) (T := 51) (vs := #[.int .i64 sl, .int .i64 vl]) (by simp) 0 _ rfl; have c1 := HK.out.c (b := w.heap.size) (T := 51) (vs := #[.int .i64 sl, .int .i64 vl]) (by simp) 1 _ rfl)
      | (go_at_call 31; refine (toLabel_any sl vl _).mono ?_; rintro e y ⟨rfl, hb⟩; have HK := Lib.hid (HK.out.stay hb); (try have T1 := Lib.hid (T1.out.stay hb)); (try have C1 := Lib.hid (C1.out.stay hb)); clear c0 c1 hb; have c0 := HK.out.c (b := w.heap.size) (T := 51) (vs := #[.int .i64 sl, .int .i64 vl]) (by simp) 0 _ rfl; have c1 := HK.out.c (b := w.heap.size) (T := 51) (vs := #[.int .i64 sl, .int .i64 vl]) (by simp) 1 _ rfl)
      | (go_at_call 40; refine (specQuiet_any l s1 q t1 sl vl _ T1.out C1.out HZ.out HZ1.out HQZ.out).mono ?_; rintro e y ⟨rfl, hb⟩; have HK := Lib.hid (HK.out.stay hb); clear c0 c1 hb; have c0 := HK.out.c (b := w.heap.size) (T := 51) (vs := #[.int .i64 sl, .int .i64 vl]) (by simp) 0 _ rfl; have c1 := HK.out.c (b := w.heap.size) (T := 51) (vs := #[.int .i64 sl, .int .i64 vl]) (by simp) 1 _ rfl))
    all_goals
      go_wp2_with fail
      go_meet
      exact ⟨rfl, HK.out⟩
  case rest =>
    obtain ⟨rfl, hcut⟩ := hcut
    have HK2 := Lib.hid hcut
    clear hcut HK1
    go_wp2_with fail
    refine (toThingS_any l s _ (HT.out.stay HK2.out.1) HZ.out HZS.out).mono ?_
    rintro e z1 ⟨⟨s2, rfl, t1⟩, hb⟩
    have HK3 := Lib.hid (HK2.out.stay hb)
    have T3 := Lib.hid t1
    clear hb t1 HK2
    go_wp2_with fail
    refine (toCallS_any q t _ (HQ.out.stay HK3.out.1) HQZ.out).mono ?_
    rintro e z2 ⟨⟨t2, rfl, k1, -⟩, hb⟩
    have HK4 := Lib.hid (HK3.out.stay hb)
    have T4 := Lib.hid (T3.out.stay hb)
    have C4 := Lib.hid k1
    clear hb k1 HK3 T3
    have c0 := HK4.out.c (b := w.heap.size) (T := 51) (vs := #[.int .i64 sl, .int .i64 vl]) (by simp) 0 _ rfl
    have c1 := HK4.out.c (b := w.heap.size) (T := 51) (vs := #[.int .i64 sl, .int .i64 vl]) (by simp) 1 _ rfl
    go_wp2_with fail
    refine (toLabel_any sl vl _).mono ?_
    rintro e z3 ⟨rfl, hb⟩
    have HK5 := Lib.hid (HK4.out.stay hb)
    have T5 := Lib.hid (T4.out.stay hb)
    have C5' := Lib.hid (C4.out.stay hb)
    clear hb c0 c1 HK4 T4 C4
    go_wp2_with fail
    refine (implQuiet_any l s2 q t2 sl vl _ T5.out (HF.out.stay HK5.out.1) C5'.out HZ.out HQZ.out).mono ?_
    rintro e z4 ⟨rfl, hb⟩
    have HK6 := Lib.hid (HK5.out.stay hb)
    have T6 := Lib.hid (T5.out.stay hb)
    have C6 := Lib.hid (C5'.out.stay hb)
    clear hb HK5 T5 C5'
    generalize quietV l q sl vl = b
    have bne : (b != b) = false := by cases b <;> rfl
    go_wp2_with fail
    refine (toThingS_any l s _ (HT.out.stay HK6.out.1) HZ.out HZS.out).mono ?_
    rintro e z5 ⟨⟨s3, rfl, t1⟩, hb⟩
    have HK7 := Lib.hid (HK6.out.stay hb)
    have T7 := Lib.hid (T6.out.stay hb)
    have T8' := Lib.hid t1
    have C7 := Lib.hid (C6.out.stay hb)
    clear hb t1 HK6 T6 C6
    go_wp2_with fail
    refine (eqThingS_same l s2 s3 _ T7.out T8'.out HZ.out HZS.out).mono ?_
    rintro e z6 ⟨rfl, hb⟩
    have HK8 := Lib.hid (HK7.out.stay hb)
    have C8 := Lib.hid (C7.out.stay hb)
    clear hb HK7 T7 T8' C7
    go_wp2_with fail
    refine (toCallS_any q t _ (HQ.out.stay HK8.out.1) HQZ.out).mono ?_
    rintro e z7 ⟨⟨t3, rfl, k1, -⟩, hb⟩
    have HK9 := Lib.hid (HK8.out.stay hb)
    have C9 := Lib.hid (C8.out.stay hb)
    have C10 := Lib.hid k1
    clear hb k1 HK8 C8
    go_wp2_with fail
    refine (eqCallS_same q t2 t3 _ C9.out C10.out HQZ.out).mono ?_
    rintro e z8 ⟨rfl, hb⟩
    have HKe := Lib.hid (HK9.out.stay hb)
    clear hb
    go_wp2
    go_ret
    exact ⟨rfl, HKe.out.1⟩
end Go.Proofs.YtpahahonopiblaaDoor
