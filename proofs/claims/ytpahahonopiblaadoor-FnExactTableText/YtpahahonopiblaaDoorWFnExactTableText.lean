/-
  The walk of laws.FnExactTableText.
-/
import Derived.Test.YtpahahonopiblaaDoorTxM
import Derived.Test.YtpahahonopiblaaDoorEqS
import Derived.Deep.RegionWith
namespace Go.Proofs.YtpahahonopiblaaDoor
open Go.RowKit
set_option linter.unusedVariables false

set_option maxRecDepth 100000 in
set_option maxHeartbeats 2000000 in
theorem walk_FnExactTableText (l : List T8) (s : Sl) (w : World) (hKF : KF w) (hTP : TP w) (ht : HasT w s l) (hn : s.n ≤ maxLen) (hns : ∀ i (h : i < l.length), l[i].slots.length ≤ maxLen ∧ l[i].queue.length ≤ maxLen) :
    Calls Tryd.prog 3 #[.slice s.a s.n s.c] w fun e w' => e = .returned (.bool true) ∧ Below w.heap.size w w' := by
  have HF := Lib.hid hKF
  have HTP := Lib.hid hTP
  have HT := Lib.hid ht
  clear hKF hTP
  have HC := Lib.hid (szThingS_any l s _ ht hn hns)
  clear ht hn hns
  go_enter Tryd.func3, Tryd.ntmps3
  go_wp2_with fail
  refine HC.out.mono ?_
  rintro e y1 ⟨⟨u, rfl, hu⟩, hb1⟩
  have HK1 := Lib.hid (Kn.start hb1)
  clear HC hb1
  by_cases g : u < 0
  · clear hu
    go_wp2
    go_ret
    exact ⟨rfl, HK1.out.1⟩
  obtain ⟨hz, hzs⟩ : l.length ≤ 1048576 ∧ ∀ i (h : i < l.length), l[i].slots.length ≤ 1048576 ∧ l[i].queue.length ≤ 1048576 := by
    rcases hu with hu | hu
    · exact absurd hu g
    · exact hu
  obtain ⟨t, ht⟩ : ∃ t, textV l = t := ⟨_, rfl⟩
  have HVT := Lib.hid ht
  have tt : (t.toList == t.toList) = true := toList_self t
  have HZ := Lib.hid hz
  have HZS := Lib.hid hzs
  have HZ1 := Lib.hid (show ∀ i (h : i < l.length), l[i].slots.length ≤ 1048576 from fun i h => (hzs i h).1)
  clear hu hz hzs ht
  go_wp2_with fail
  refine (toThingS_any l s _ (HT.out.stay HK1.out.1) HZ.out HZS.out).mono ?_
  rintro e y2 ⟨⟨s1, rfl, t1⟩, hb2⟩
  have HK2 := Lib.hid (HK1.out.stay hb2)
  have T1 := Lib.hid t1
  clear t1 hb2 HK1
  go_wp2_with fail
  refine (specTabText_val HVT.out _ T1.out HZ.out HZ1.out).mono ?_
  rintro e y4 ⟨rfl, hb4⟩
  have HK5 := Lib.hid (HK2.out.stay hb4)
  clear hb4 HK2 T1
  go_wp2_with fail
  refine (toThingS_any l s _ (HT.out.stay HK5.out.1) HZ.out HZS.out).mono ?_
  rintro e z1 ⟨⟨s2, rfl, t1⟩, hb⟩
  have HK6 := Lib.hid (HK5.out.stay hb)
  have T3 := Lib.hid t1
  clear hb t1
  go_wp2_with fail
  refine (implTabText_val HVT.out _ T3.out (HF.out.stay HK6.out.1) (HTP.out.stay HK6.out.1) HZ.out).mono ?_
  rintro e z3 ⟨rfl, hb⟩
  have HK8 := Lib.hid (HK6.out.stay hb)
  have T5 := Lib.hid (T3.out.stay hb)
  clear hb
  go_wp2_with fail
  refine (toThingS_any l s _ (HT.out.stay HK8.out.1) HZ.out HZS.out).mono ?_
  rintro e z4 ⟨⟨s3, rfl, t1⟩, hb⟩
  have HK9 := Lib.hid (HK8.out.stay hb)
  have T6 := Lib.hid (T5.out.stay hb)
  have T7 := Lib.hid t1
  clear hb t1
  go_wp2_with fail
  refine (eqThingS_same l s2 s3 _ T6.out T7.out HZ.out HZS.out).mono ?_
  rintro e z5 ⟨rfl, hb⟩
  have HKe := Lib.hid (HK9.out.stay hb)
  clear hb
  go_wp2
  go_ret
  exact ⟨rfl, HKe.out.1⟩
end Go.Proofs.YtpahahonopiblaaDoor
