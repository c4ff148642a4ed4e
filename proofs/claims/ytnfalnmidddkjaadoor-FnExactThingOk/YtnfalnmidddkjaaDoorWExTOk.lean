/-
  The walk of laws.FnExactThingOk.
-/
import Derived.Test.YtnfalnmidddkjaaDoorThgI
import Derived.Test.YtnfalnmidddkjaaDoorTOk
import Derived.Test.YtnfalnmidddkjaaDoorEqS
import Derived.Deep.RegionWith
namespace Go.Proofs.YtnfalnmidddkjaaDoor
open Go.RowKit
set_option linter.unusedVariables false

set_option maxRecDepth 100000 in
set_option maxHeartbeats 2000000 in
theorem walk_FnExactThingOk (x : T8) (s q : Sl) (w : World) (hKF : KF w) (hs : HasR w s x.slots) (hq : HasQ w q x.queue) (hsn : s.n ≤ maxLen) (hqn : q.n ≤ maxLen) :
    Calls Tryd.prog 10 #[x.val s q] w fun e w' => e = .returned (.bool true) ∧ Below w.heap.size w w' := by
  have K0 := (Kn.refl (w := w)).new 53 (x.cs s q)
  have HF := Lib.hid hKF
  have HS := Lib.hid hs
  clear hKF
  have HQ := Lib.hid hq
  have HC := Lib.hid (fun w => szThing_any x s q 1048576 w hsn hqn (by decide) (by decide))
  clear hs hq hsn hqn
  by_cases g : szT 1048576 s.n q.n < 0
  · revert HC g
    generalize szT 1048576 s.n q.n = u
    intro HC g
    go_enter Tryd.func10, Tryd.ntmps10
    go_wp2_with fail
    refine (HC.out _).mono ?_
    rintro e y ⟨rfl, hb⟩
    go_wp2
    go_ret
    exact ⟨rfl, (K0.stay hb).1⟩
  have hle := (szT_le g).2
  have hz : x.slots.length ≤ 1048576 := by rw [← HS.out.len]; omega
  have hzq : x.queue.length ≤ 1048576 := by rw [← HQ.out.len]; omega
  have HZ := Lib.hid hz
  have HZQ := Lib.hid hzq
  clear hle hz hzq
  revert HC g
  generalize szT 1048576 s.n q.n = u
  intro HC g
  go_enter Tryd.func10, Tryd.ntmps10
  go_wp2_with fail
  refine (HC.out _).mono ?_
  rintro e y1 ⟨rfl, hb⟩
  have K1 := K0.stay hb
  clear hb K0 HC
  have c0 := K1.c (b := w.heap.size) (T := 53) (vs := x.cs s q) (by simp) 0 _ rfl
  have c1 := K1.c (b := w.heap.size) (T := 53) (vs := x.cs s q) (by simp) 1 _ rfl
  have c2 := K1.c (b := w.heap.size) (T := 53) (vs := x.cs s q) (by simp) 2 _ rfl
  have c3 := K1.c (b := w.heap.size) (T := 53) (vs := x.cs s q) (by simp) 3 _ rfl
  have c4 := K1.c (b := w.heap.size) (T := 53) (vs := x.cs s q) (by simp) 4 _ rfl
  have c5 := K1.c (b := w.heap.size) (T := 53) (vs := x.cs s q) (by simp) 5 _ rfl
  have c6 := K1.c (b := w.heap.size) (T := 53) (vs := x.cs s q) (by simp) 6 _ rfl
  have c7 := K1.c (b := w.heap.size) (T := 53) (vs := x.cs s q) (by simp) 7 _ rfl
  have HK1 := Lib.hid K1
  clear K1
  go_wp2_with fail
  refine (toThing_any x s q _ (HS.out.stay HK1.out.1) (HQ.out.stay HK1.out.1) HZ.out HZQ.out).mono ?_
  rintro e y2 ⟨⟨s1, q1, rfl, r1, r2, -, -⟩, hb⟩
  have HK2 := Lib.hid (HK1.out.stay hb)
  have R1 := Lib.hid r1
  have R2 := Lib.hid r2
  clear c0 c1 c2 c3 c4 c5 c6 c7
  clear hb HK1 r1 r2
  go_wp2_with fail
  refine (specTOk_any x s1 q1 _ R1.out R2.out HZ.out).mono ?_
  rintro e y3 ⟨rfl, hb⟩
  have HK3 := Lib.hid (HK2.out.stay hb)
  clear hb HK2 R1 R2
  have c0 := HK3.out.c (b := w.heap.size) (T := 53) (vs := x.cs s q) (by simp) 0 _ rfl
  have c1 := HK3.out.c (b := w.heap.size) (T := 53) (vs := x.cs s q) (by simp) 1 _ rfl
  have c2 := HK3.out.c (b := w.heap.size) (T := 53) (vs := x.cs s q) (by simp) 2 _ rfl
  have c3 := HK3.out.c (b := w.heap.size) (T := 53) (vs := x.cs s q) (by simp) 3 _ rfl
  have c4 := HK3.out.c (b := w.heap.size) (T := 53) (vs := x.cs s q) (by simp) 4 _ rfl
  have c5 := HK3.out.c (b := w.heap.size) (T := 53) (vs := x.cs s q) (by simp) 5 _ rfl
  have c6 := HK3.out.c (b := w.heap.size) (T := 53) (vs := x.cs s q) (by simp) 6 _ rfl
  have c7 := HK3.out.c (b := w.heap.size) (T := 53) (vs := x.cs s q) (by simp) 7 _ rfl
  go_wp2_with fail
  refine (toThing_any x s q _ (HS.out.stay HK3.out.1) (HQ.out.stay HK3.out.1) HZ.out HZQ.out).mono ?_
  rintro e y4 ⟨⟨s2, q2, rfl, r1, r2, -, -⟩, hb⟩
  have HK4 := Lib.hid ((HK3.out.stay hb).new 30 (x.cs s2 q2))
  have hal : Below y4.heap.size y4 (y4.alloc (.cells (x.cs s2 q2) 30)) := (Below.refl _ _).alloc (Nat.le_refl _) _
  have R1 := Lib.hid (r1.stay hal)
  have R2 := Lib.hid (r2.stay hal)
  clear c0 c1 c2 c3 c4 c5 c6 c7
  clear hb HK3 r1 r2 hal
  go_wp2_with fail
  refine (implTOk_any x s2 q2 _ R1.out R2.out (HF.out.stay HK4.out.1)).mono ?_
  rintro e y5 ⟨rfl, hb⟩
  have HK5 := Lib.hid (HK4.out.stay hb)
  have R3 : Hid (HasR y5.drew s2 x.slots) := Lib.hid (R1.out.stay hb.drew)
  have R4 : Hid (HasQ y5.drew q2 x.queue) := Lib.hid (R2.out.stay hb.drew)
  clear hb HK4 R1 R2
  have c0 := HK5.out.c (b := w.heap.size) (T := 53) (vs := x.cs s q) (by simp) 0 _ rfl
  have c1 := HK5.out.c (b := w.heap.size) (T := 53) (vs := x.cs s q) (by simp) 1 _ rfl
  have c2 := HK5.out.c (b := w.heap.size) (T := 53) (vs := x.cs s q) (by simp) 2 _ rfl
  have c3 := HK5.out.c (b := w.heap.size) (T := 53) (vs := x.cs s q) (by simp) 3 _ rfl
  have c4 := HK5.out.c (b := w.heap.size) (T := 53) (vs := x.cs s q) (by simp) 4 _ rfl
  have c5 := HK5.out.c (b := w.heap.size) (T := 53) (vs := x.cs s q) (by simp) 5 _ rfl
  have c6 := HK5.out.c (b := w.heap.size) (T := 53) (vs := x.cs s q) (by simp) 6 _ rfl
  have c7 := HK5.out.c (b := w.heap.size) (T := 53) (vs := x.cs s q) (by simp) 7 _ rfl
  have d0 := HK5.out.c (b := y4.heap.size) (T := 30) (vs := x.cs s2 q2) (by simp) 0 _ rfl
  have d1 := HK5.out.c (b := y4.heap.size) (T := 30) (vs := x.cs s2 q2) (by simp) 1 _ rfl
  have d2 := HK5.out.c (b := y4.heap.size) (T := 30) (vs := x.cs s2 q2) (by simp) 2 _ rfl
  have d3 := HK5.out.c (b := y4.heap.size) (T := 30) (vs := x.cs s2 q2) (by simp) 3 _ rfl
  have d4 := HK5.out.c (b := y4.heap.size) (T := 30) (vs := x.cs s2 q2) (by simp) 4 _ rfl
  have d5 := HK5.out.c (b := y4.heap.size) (T := 30) (vs := x.cs s2 q2) (by simp) 5 _ rfl
  have d6 := HK5.out.c (b := y4.heap.size) (T := 30) (vs := x.cs s2 q2) (by simp) 6 _ rfl
  have d7 := HK5.out.c (b := y4.heap.size) (T := 30) (vs := x.cs s2 q2) (by simp) 7 _ rfl
  generalize okT x = b
  cases b
  all_goals
    go_wp2_with fail
    go_region_with (first
      | (go_at_call 35; refine (toThing_any x s q _ (HS.out.stay HK5.out.1.drew) (HQ.out.stay HK5.out.1.drew) HZ.out HZQ.out).mono ?_; rintro e y6 ⟨⟨s3, q3, rfl, r1, r2, -, -⟩, hb6⟩; have HK6 := Lib.hid (HK5.out.drew.stay hb6); have R5 := Lib.hid (R3.out.stay hb6); have R6 := Lib.hid (R4.out.stay hb6); have Q5 := Lib.hid r1; have Q6 := Lib.hid r2; have d0 := HK6.out.c (b := y4.heap.size) (T := 30) (vs := x.cs s2 q2) (by simp) 0 _ rfl; have d1 := HK6.out.c (b := y4.heap.size) (T := 30) (vs := x.cs s2 q2) (by simp) 1 _ rfl; have d2 := HK6.out.c (b := y4.heap.size) (T := 30) (vs := x.cs s2 q2) (by simp) 2 _ rfl; have d3 := HK6.out.c (b := y4.heap.size) (T := 30) (vs := x.cs s2 q2) (by simp) 3 _ rfl; have d4 := HK6.out.c (b := y4.heap.size) (T := 30) (vs := x.cs s2 q2) (by simp) 4 _ rfl; have d5 := HK6.out.c (b := y4.heap.size) (T := 30) (vs := x.cs s2 q2) (by simp) 5 _ rfl; have d6 := HK6.out.c (b := y4.heap.size) (T := 30) (vs := x.cs s2 q2) (by simp) 6 _ rfl; have d7 := HK6.out.c (b := y4.heap.size) (T := 30) (vs := x.cs s2 q2) (by simp) 7 _ rfl; clear hb6 r1 r2)
      | (go_at_call 36; refine (eqThing_same x s2 q2 s3 q3 _ R5.out R6.out Q5.out Q6.out HZ.out HZQ.out).mono ?_; rintro e y7 ⟨rfl, hb7⟩; have HK7 := Lib.hid (HK6.out.stay hb7); clear hb7))
    all_goals
      go_wp2
      go_ret
      exact ⟨rfl, HK7.out.1⟩
end Go.Proofs.YtnfalnmidddkjaaDoor
