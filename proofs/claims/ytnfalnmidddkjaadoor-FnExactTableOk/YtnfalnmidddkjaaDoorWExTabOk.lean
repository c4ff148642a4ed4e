/-
  The walk of laws.FnExactTableOk.
-/
import Derived.Test.YtnfalnmidddkjaaDoorThgI
import Derived.Test.YtnfalnmidddkjaaDoorTabL
import Derived.Test.YtnfalnmidddkjaaDoorEqS
import Derived.Deep.RegionWith
namespace Go.Proofs.YtnfalnmidddkjaaDoor
open Go.RowKit
set_option linter.unusedVariables false

set_option maxRecDepth 100000 in
set_option maxHeartbeats 2000000 in
theorem walk_FnExactTableOk (l : List T8) (s : Sl) (w : World) (hKF : KF w) (ht : HasT w s l) (hn : s.n ≤ maxLen) (hns : ∀ i (h : i < l.length), l[i].slots.length ≤ maxLen ∧ l[i].queue.length ≤ maxLen) :
    Calls Tryd.prog 12 #[.slice s.a s.n s.c] w fun e w' => e = .returned (.bool true) ∧ Below w.heap.size w w' := by
  have HF := Lib.hid hKF
  have HT := Lib.hid ht
  clear hKF
  have HC := Lib.hid (szThingS_any l s w ht hn hns)
  clear ht hn hns
  go_enter Tryd.func12, Tryd.ntmps12
  go_wp2_with fail
  refine HC.out.mono ?_
  rintro e y1 ⟨⟨u, rfl, hu⟩, hb1⟩
  clear HC
  by_cases g : u < 0
  · clear hu
    go_wp2
    go_ret
    exact ⟨rfl, hb1⟩
  obtain ⟨hz, hzs⟩ : l.length ≤ 1048576 ∧ ∀ i (h : i < l.length), l[i].slots.length ≤ 1048576 ∧ l[i].queue.length ≤ 1048576 := by
    rcases hu with hu | hu
    · exact absurd hu g
    · exact hu
  have HZ := Lib.hid hz
  have HZS := Lib.hid hzs
  have HZ1 := Lib.hid (show ∀ i (h : i < l.length), l[i].slots.length ≤ 1048576 from fun i h => (hzs i h).1)
  have HB1 := Lib.hid hb1
  clear hu hz hzs hb1
  go_wp2_with fail
  refine (toThingS_any l s _ (HT.out.stay HB1.out) HZ.out HZS.out).mono ?_
  rintro e y2 ⟨⟨s1, rfl, t1⟩, hb⟩
  have HB2 := Lib.hid (HB1.out.trans (hb.mono HB1.out.size))
  have T1 := Lib.hid t1
  clear hb HB1 t1
  go_wp2_with fail
  refine (specTabOk_any l s1 _ T1.out HZ.out HZ1.out).mono ?_
  rintro e y3 ⟨rfl, hb⟩
  have HB3 := Lib.hid (HB2.out.trans (hb.mono HB2.out.size))
  clear hb HB2 T1
  go_wp2_with fail
  refine (toThingS_any l s _ (HT.out.stay HB3.out) HZ.out HZS.out).mono ?_
  rintro e y4 ⟨⟨s2, rfl, t1⟩, hb⟩
  have HB4 := Lib.hid (HB3.out.trans (hb.mono HB3.out.size))
  have T1 := Lib.hid t1
  clear hb HB3 t1
  go_wp2_with fail
  refine (implTabOk_any l s2 _ T1.out (HF.out.stay HB4.out) HZ.out).mono ?_
  rintro e y5 ⟨rfl, hb⟩
  have HB5 := Lib.hid (HB4.out.trans (hb.mono HB4.out.size))
  have T2 := Lib.hid (T1.out.stay hb)
  clear hb HB4 T1
  generalize tabOk l = b
  cases b
  all_goals
    go_wp2_with fail
    refine (toThingS_any l s _ (HT.out.stay HB5.out) HZ.out HZS.out).mono ?_
    rintro e y6 ⟨⟨s3, rfl, t1⟩, hb⟩
    have HB6 := Lib.hid (HB5.out.trans (hb.mono HB5.out.size))
    have T3 := Lib.hid (T2.out.stay hb)
    have T4 := Lib.hid t1
    clear hb HB5 t1 T2
    go_wp2_with fail
    refine (eqThingS_same l s2 s3 _ T3.out T4.out HZ.out HZS.out).mono ?_
    rintro e y7 ⟨rfl, hb⟩
    have HB7 := Lib.hid (HB6.out.trans (hb.mono HB6.out.size))
    clear hb HB6
    go_wp2
    go_ret
    exact ⟨rfl, HB7.out⟩
end Go.Proofs.YtnfalnmidddkjaaDoor
