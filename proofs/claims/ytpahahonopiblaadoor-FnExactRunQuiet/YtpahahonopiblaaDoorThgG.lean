/-
  The program's ThingOk.
-/
import Derived.Test.YtpahahonopiblaaDoorThgF
import Derived.Test.YtpahahonopiblaaDoorLabA
namespace Go.Proofs.YtpahahonopiblaaDoor
open Go.RowKit
set_option linter.unusedVariables false

theorem fieldsOf_val (k : Int) (h : inR k 1 5 = true) (w : World) (hf : KF w) :
    Calls Tryd.prog 56 #[.int .i64 k] w fun e w' => e = .returned (.tuple #[(rowOf k).val, .bool true]) ∧ Below w.heap.size w w' := by
  obtain ⟨p1, p2⟩ : 1 ≤ k ∧ k ≤ 5 := by simpa [inR] using h
  obtain ⟨n, rfl⟩ : ∃ n : Nat, k = n := ⟨k.toNat, by omega⟩
  exact fieldsOf_in n (by omega) (by omega) w hf
theorem implOk_val {s v : Int} {b : Bool} (h : okL s v = b) (w : World) :
    Calls Tryd.prog 66 #[lab s v] w fun e w' => e = .returned (.bool b) ∧ Below w.heap.size w w' := by
  subst h; exact implOk_any s v w
theorem rightsOk_val {x : T8} {s q : Sl} {b : Bool} (h : (rts [x]).all R5.ok = b) (w : World) (hs : HasR w s x.slots) (hq : HasQ w q x.queue) :
    Calls Tryd.prog 98 #[x.val s q] w fun e w' => e = .returned (.bool b) ∧ Below w.heap.size w w' := by
  subst h; exact rightsOk_any x s q w hs hq
theorem queueOk_val {x : T8} {s q : Sl} {b : Bool} (h : x.queue.all (inR · 0 99) = b) (w : World) (hq : HasQ w q x.queue) (hz : x.queue.length ≤ 1048576) :
    Calls Tryd.prog 99 #[x.val s q] w fun e w' => e = .returned (.bool b) ∧ Below w.heap.size w w' := by
  subst h; exact queueOk_any x s q w hq hz

set_option maxRecDepth 100000 in
set_option maxHeartbeats 4000000 in
theorem implTOk_out (x : T8) (s q : Sl) (w : World) (h : inR x.kind 1 5 = false) :
    Calls Tryd.prog 59 #[x.val s q] w fun e w' => e = .returned (.bool (okT x)) ∧ Below w.heap.size w w' := by
  rw [okT_out h]
  have HC := Lib.hid (fun w => fieldsOf_out x.kind h w)
  have K0 := (Kn.refl (w := w)).new 37 (x.cs s q)
  have HK := Lib.hid K0
  clear h K0
  go_enter Tryd.func59, Tryd.ntmps59
  go_wp2_with fail
  refine (HC.out _).mono ?_
  rintro e y ⟨rfl, hb⟩
  have HK1 := Lib.hid (HK.out.stay hb)
  clear hb
  go_wp2
  go_ret
  exact ⟨rfl, (HK1.out.past _).1⟩

set_option maxRecDepth 100000 in
set_option maxHeartbeats 8000000 in
theorem implTOk_in (x : T8) (s q : Sl) (w : World) (hs : HasR w s x.slots) (hq : HasQ w q x.queue) (r : Row) (hr : rowOf x.kind = r) (hq1 : r.q1 ≤ 3) (h : inR x.kind 1 5 = true) (hf : KF w) :
    Calls Tryd.prog 59 #[x.val s q] w fun e w' => e = .returned (.bool (okI x r)) ∧ Below w.heap.size w w' := by
  have K0 := (Kn.refl (w := w)).new 37 (x.cs s q)
  have HC := Lib.hid (fieldsOf_val x.kind h _ (hf.stay K0.1))
  rw [hr] at HC
  have HS := Lib.hid hs
  have HQ := Lib.hid hq
  have HK := Lib.hid K0
  have HQ1 := Lib.hid hq1
  clear h hr hs hq K0 hf hq1
  go_enter Tryd.func59, Tryd.ntmps59
  go_wp2_with fail
  refine HC.out.mono ?_
  rintro e y ⟨rfl, hb⟩
  have HK1 := Lib.hid ((HK.out.stay hb).new 84 r.cs)
  clear hb HC HK
  cases g0 : okL x.sec x.vou
  · have G0 := Lib.hid g0
    clear g0
    have c0 := HK1.out.c (b := w.heap.size) (T := 37) (vs := x.cs s q) (by simp) 0 _ rfl
    have c1 := HK1.out.c (b := w.heap.size) (T := 37) (vs := x.cs s q) (by simp) 1 _ rfl
    have c2 := HK1.out.c (b := w.heap.size) (T := 37) (vs := x.cs s q) (by simp) 2 _ rfl
    have c3 := HK1.out.c (b := w.heap.size) (T := 37) (vs := x.cs s q) (by simp) 3 _ rfl
    have c4 := HK1.out.c (b := w.heap.size) (T := 37) (vs := x.cs s q) (by simp) 4 _ rfl
    have c5 := HK1.out.c (b := w.heap.size) (T := 37) (vs := x.cs s q) (by simp) 5 _ rfl
    have c6 := HK1.out.c (b := w.heap.size) (T := 37) (vs := x.cs s q) (by simp) 6 _ rfl
    have c7 := HK1.out.c (b := w.heap.size) (T := 37) (vs := x.cs s q) (by simp) 7 _ rfl
    have f0 := HK1.out.c (b := y.heap.size) (T := 84) (vs := r.cs) (by simp) 0 _ rfl
    have f1 := HK1.out.c (b := y.heap.size) (T := 84) (vs := r.cs) (by simp) 1 _ rfl
    have f2 := HK1.out.c (b := y.heap.size) (T := 84) (vs := r.cs) (by simp) 2 _ rfl
    have f3 := HK1.out.c (b := y.heap.size) (T := 84) (vs := r.cs) (by simp) 3 _ rfl
    have f4 := HK1.out.c (b := y.heap.size) (T := 84) (vs := r.cs) (by simp) 4 _ rfl
    have f5 := HK1.out.c (b := y.heap.size) (T := 84) (vs := r.cs) (by simp) 5 _ rfl
    have f6 := HK1.out.c (b := y.heap.size) (T := 84) (vs := r.cs) (by simp) 6 _ rfl
    have f7 := HK1.out.c (b := y.heap.size) (T := 84) (vs := r.cs) (by simp) 7 _ rfl
    have f8 := HK1.out.c (b := y.heap.size) (T := 84) (vs := r.cs) (by simp) 8 _ rfl
    have f9 := HK1.out.c (b := y.heap.size) (T := 84) (vs := r.cs) (by simp) 9 _ rfl
    have f10 := HK1.out.c (b := y.heap.size) (T := 84) (vs := r.cs) (by simp) 10 _ rfl
    go_wp2_with fail
    refine (implOk_val G0.out _).mono ?_
    rintro e y2 ⟨rfl, hb⟩
    have HK2 := Lib.hid (HK1.out.stay hb)
    clear hb HK1 c0 c1 c2 c3 c4 c5 c6 c7 f0 f1 f2 f3 f4 f5 f6 f7 f8 f9 f10
    go_wp2
    go_ret
    refine ⟨?_, HK2.out.1⟩
    unfold okI
    rw [← HS.out.len, ← HQ.out.len]
    simp only [G0.out]
    rfl
  have G0 := Lib.hid g0
  clear g0
  have c0 := HK1.out.c (b := w.heap.size) (T := 37) (vs := x.cs s q) (by simp) 0 _ rfl
  have c1 := HK1.out.c (b := w.heap.size) (T := 37) (vs := x.cs s q) (by simp) 1 _ rfl
  have c2 := HK1.out.c (b := w.heap.size) (T := 37) (vs := x.cs s q) (by simp) 2 _ rfl
  have c3 := HK1.out.c (b := w.heap.size) (T := 37) (vs := x.cs s q) (by simp) 3 _ rfl
  have c4 := HK1.out.c (b := w.heap.size) (T := 37) (vs := x.cs s q) (by simp) 4 _ rfl
  have c5 := HK1.out.c (b := w.heap.size) (T := 37) (vs := x.cs s q) (by simp) 5 _ rfl
  have c6 := HK1.out.c (b := w.heap.size) (T := 37) (vs := x.cs s q) (by simp) 6 _ rfl
  have c7 := HK1.out.c (b := w.heap.size) (T := 37) (vs := x.cs s q) (by simp) 7 _ rfl
  have f0 := HK1.out.c (b := y.heap.size) (T := 84) (vs := r.cs) (by simp) 0 _ rfl
  have f1 := HK1.out.c (b := y.heap.size) (T := 84) (vs := r.cs) (by simp) 1 _ rfl
  have f2 := HK1.out.c (b := y.heap.size) (T := 84) (vs := r.cs) (by simp) 2 _ rfl
  have f3 := HK1.out.c (b := y.heap.size) (T := 84) (vs := r.cs) (by simp) 3 _ rfl
  have f4 := HK1.out.c (b := y.heap.size) (T := 84) (vs := r.cs) (by simp) 4 _ rfl
  have f5 := HK1.out.c (b := y.heap.size) (T := 84) (vs := r.cs) (by simp) 5 _ rfl
  have f6 := HK1.out.c (b := y.heap.size) (T := 84) (vs := r.cs) (by simp) 6 _ rfl
  have f7 := HK1.out.c (b := y.heap.size) (T := 84) (vs := r.cs) (by simp) 7 _ rfl
  have f8 := HK1.out.c (b := y.heap.size) (T := 84) (vs := r.cs) (by simp) 8 _ rfl
  have f9 := HK1.out.c (b := y.heap.size) (T := 84) (vs := r.cs) (by simp) 9 _ rfl
  have f10 := HK1.out.c (b := y.heap.size) (T := 84) (vs := r.cs) (by simp) 10 _ rfl
  go_wp2_with fail
  refine (implOk_val G0.out _).mono ?_
  rintro e y2 ⟨rfl, hb⟩
  have HK2 := Lib.hid (HK1.out.stay hb)
  clear hb HK1 c0 c1 c2 c3 c4 c5 c6 c7 f0 f1 f2 f3 f4 f5 f6 f7 f8 f9 f10
  cases g1 : inR x.vers r.v0 r.v1
  · have G1 := Lib.hid g1
    clear g1
    have c0 := HK2.out.c (b := w.heap.size) (T := 37) (vs := x.cs s q) (by simp) 0 _ rfl
    have c1 := HK2.out.c (b := w.heap.size) (T := 37) (vs := x.cs s q) (by simp) 1 _ rfl
    have c2 := HK2.out.c (b := w.heap.size) (T := 37) (vs := x.cs s q) (by simp) 2 _ rfl
    have c3 := HK2.out.c (b := w.heap.size) (T := 37) (vs := x.cs s q) (by simp) 3 _ rfl
    have c4 := HK2.out.c (b := w.heap.size) (T := 37) (vs := x.cs s q) (by simp) 4 _ rfl
    have c5 := HK2.out.c (b := w.heap.size) (T := 37) (vs := x.cs s q) (by simp) 5 _ rfl
    have c6 := HK2.out.c (b := w.heap.size) (T := 37) (vs := x.cs s q) (by simp) 6 _ rfl
    have c7 := HK2.out.c (b := w.heap.size) (T := 37) (vs := x.cs s q) (by simp) 7 _ rfl
    have f0 := HK2.out.c (b := y.heap.size) (T := 84) (vs := r.cs) (by simp) 0 _ rfl
    have f1 := HK2.out.c (b := y.heap.size) (T := 84) (vs := r.cs) (by simp) 1 _ rfl
    have f2 := HK2.out.c (b := y.heap.size) (T := 84) (vs := r.cs) (by simp) 2 _ rfl
    have f3 := HK2.out.c (b := y.heap.size) (T := 84) (vs := r.cs) (by simp) 3 _ rfl
    have f4 := HK2.out.c (b := y.heap.size) (T := 84) (vs := r.cs) (by simp) 4 _ rfl
    have f5 := HK2.out.c (b := y.heap.size) (T := 84) (vs := r.cs) (by simp) 5 _ rfl
    have f6 := HK2.out.c (b := y.heap.size) (T := 84) (vs := r.cs) (by simp) 6 _ rfl
    have f7 := HK2.out.c (b := y.heap.size) (T := 84) (vs := r.cs) (by simp) 7 _ rfl
    have f8 := HK2.out.c (b := y.heap.size) (T := 84) (vs := r.cs) (by simp) 8 _ rfl
    have f9 := HK2.out.c (b := y.heap.size) (T := 84) (vs := r.cs) (by simp) 9 _ rfl
    have f10 := HK2.out.c (b := y.heap.size) (T := 84) (vs := r.cs) (by simp) 10 _ rfl
    go_wp2_with fail
    refine (has_val G1.out _).mono ?_
    rintro e y3 ⟨rfl, hb⟩
    have HK3 := Lib.hid (HK2.out.stay hb)
    clear hb HK2 c0 c1 c2 c3 c4 c5 c6 c7 f0 f1 f2 f3 f4 f5 f6 f7 f8 f9 f10
    go_wp2
    go_ret
    refine ⟨?_, HK3.out.1⟩
    unfold okI
    rw [← HS.out.len, ← HQ.out.len]
    simp only [G0.out, G1.out]
    rfl
  have G1 := Lib.hid g1
  clear g1
  have c0 := HK2.out.c (b := w.heap.size) (T := 37) (vs := x.cs s q) (by simp) 0 _ rfl
  have c1 := HK2.out.c (b := w.heap.size) (T := 37) (vs := x.cs s q) (by simp) 1 _ rfl
  have c2 := HK2.out.c (b := w.heap.size) (T := 37) (vs := x.cs s q) (by simp) 2 _ rfl
  have c3 := HK2.out.c (b := w.heap.size) (T := 37) (vs := x.cs s q) (by simp) 3 _ rfl
  have c4 := HK2.out.c (b := w.heap.size) (T := 37) (vs := x.cs s q) (by simp) 4 _ rfl
  have c5 := HK2.out.c (b := w.heap.size) (T := 37) (vs := x.cs s q) (by simp) 5 _ rfl
  have c6 := HK2.out.c (b := w.heap.size) (T := 37) (vs := x.cs s q) (by simp) 6 _ rfl
  have c7 := HK2.out.c (b := w.heap.size) (T := 37) (vs := x.cs s q) (by simp) 7 _ rfl
  have f0 := HK2.out.c (b := y.heap.size) (T := 84) (vs := r.cs) (by simp) 0 _ rfl
  have f1 := HK2.out.c (b := y.heap.size) (T := 84) (vs := r.cs) (by simp) 1 _ rfl
  have f2 := HK2.out.c (b := y.heap.size) (T := 84) (vs := r.cs) (by simp) 2 _ rfl
  have f3 := HK2.out.c (b := y.heap.size) (T := 84) (vs := r.cs) (by simp) 3 _ rfl
  have f4 := HK2.out.c (b := y.heap.size) (T := 84) (vs := r.cs) (by simp) 4 _ rfl
  have f5 := HK2.out.c (b := y.heap.size) (T := 84) (vs := r.cs) (by simp) 5 _ rfl
  have f6 := HK2.out.c (b := y.heap.size) (T := 84) (vs := r.cs) (by simp) 6 _ rfl
  have f7 := HK2.out.c (b := y.heap.size) (T := 84) (vs := r.cs) (by simp) 7 _ rfl
  have f8 := HK2.out.c (b := y.heap.size) (T := 84) (vs := r.cs) (by simp) 8 _ rfl
  have f9 := HK2.out.c (b := y.heap.size) (T := 84) (vs := r.cs) (by simp) 9 _ rfl
  have f10 := HK2.out.c (b := y.heap.size) (T := 84) (vs := r.cs) (by simp) 10 _ rfl
  go_wp2_with fail
  refine (has_val G1.out _).mono ?_
  rintro e y3 ⟨rfl, hb⟩
  have HK3 := Lib.hid (HK2.out.stay hb)
  clear hb HK2 c0 c1 c2 c3 c4 c5 c6 c7 f0 f1 f2 f3 f4 f5 f6 f7 f8 f9 f10
  cases g2 : inR x.num r.n0 r.n1
  · have G2 := Lib.hid g2
    clear g2
    have c0 := HK3.out.c (b := w.heap.size) (T := 37) (vs := x.cs s q) (by simp) 0 _ rfl
    have c1 := HK3.out.c (b := w.heap.size) (T := 37) (vs := x.cs s q) (by simp) 1 _ rfl
    have c2 := HK3.out.c (b := w.heap.size) (T := 37) (vs := x.cs s q) (by simp) 2 _ rfl
    have c3 := HK3.out.c (b := w.heap.size) (T := 37) (vs := x.cs s q) (by simp) 3 _ rfl
    have c4 := HK3.out.c (b := w.heap.size) (T := 37) (vs := x.cs s q) (by simp) 4 _ rfl
    have c5 := HK3.out.c (b := w.heap.size) (T := 37) (vs := x.cs s q) (by simp) 5 _ rfl
    have c6 := HK3.out.c (b := w.heap.size) (T := 37) (vs := x.cs s q) (by simp) 6 _ rfl
    have c7 := HK3.out.c (b := w.heap.size) (T := 37) (vs := x.cs s q) (by simp) 7 _ rfl
    have f0 := HK3.out.c (b := y.heap.size) (T := 84) (vs := r.cs) (by simp) 0 _ rfl
    have f1 := HK3.out.c (b := y.heap.size) (T := 84) (vs := r.cs) (by simp) 1 _ rfl
    have f2 := HK3.out.c (b := y.heap.size) (T := 84) (vs := r.cs) (by simp) 2 _ rfl
    have f3 := HK3.out.c (b := y.heap.size) (T := 84) (vs := r.cs) (by simp) 3 _ rfl
    have f4 := HK3.out.c (b := y.heap.size) (T := 84) (vs := r.cs) (by simp) 4 _ rfl
    have f5 := HK3.out.c (b := y.heap.size) (T := 84) (vs := r.cs) (by simp) 5 _ rfl
    have f6 := HK3.out.c (b := y.heap.size) (T := 84) (vs := r.cs) (by simp) 6 _ rfl
    have f7 := HK3.out.c (b := y.heap.size) (T := 84) (vs := r.cs) (by simp) 7 _ rfl
    have f8 := HK3.out.c (b := y.heap.size) (T := 84) (vs := r.cs) (by simp) 8 _ rfl
    have f9 := HK3.out.c (b := y.heap.size) (T := 84) (vs := r.cs) (by simp) 9 _ rfl
    have f10 := HK3.out.c (b := y.heap.size) (T := 84) (vs := r.cs) (by simp) 10 _ rfl
    go_wp2_with fail
    refine (has_val G2.out _).mono ?_
    rintro e y4 ⟨rfl, hb⟩
    have HK4 := Lib.hid (HK3.out.stay hb)
    clear hb HK3 c0 c1 c2 c3 c4 c5 c6 c7 f0 f1 f2 f3 f4 f5 f6 f7 f8 f9 f10
    go_wp2
    go_ret
    refine ⟨?_, HK4.out.1⟩
    unfold okI
    rw [← HS.out.len, ← HQ.out.len]
    simp only [G0.out, G1.out, G2.out]
    rfl
  have G2 := Lib.hid g2
  clear g2
  have c0 := HK3.out.c (b := w.heap.size) (T := 37) (vs := x.cs s q) (by simp) 0 _ rfl
  have c1 := HK3.out.c (b := w.heap.size) (T := 37) (vs := x.cs s q) (by simp) 1 _ rfl
  have c2 := HK3.out.c (b := w.heap.size) (T := 37) (vs := x.cs s q) (by simp) 2 _ rfl
  have c3 := HK3.out.c (b := w.heap.size) (T := 37) (vs := x.cs s q) (by simp) 3 _ rfl
  have c4 := HK3.out.c (b := w.heap.size) (T := 37) (vs := x.cs s q) (by simp) 4 _ rfl
  have c5 := HK3.out.c (b := w.heap.size) (T := 37) (vs := x.cs s q) (by simp) 5 _ rfl
  have c6 := HK3.out.c (b := w.heap.size) (T := 37) (vs := x.cs s q) (by simp) 6 _ rfl
  have c7 := HK3.out.c (b := w.heap.size) (T := 37) (vs := x.cs s q) (by simp) 7 _ rfl
  have f0 := HK3.out.c (b := y.heap.size) (T := 84) (vs := r.cs) (by simp) 0 _ rfl
  have f1 := HK3.out.c (b := y.heap.size) (T := 84) (vs := r.cs) (by simp) 1 _ rfl
  have f2 := HK3.out.c (b := y.heap.size) (T := 84) (vs := r.cs) (by simp) 2 _ rfl
  have f3 := HK3.out.c (b := y.heap.size) (T := 84) (vs := r.cs) (by simp) 3 _ rfl
  have f4 := HK3.out.c (b := y.heap.size) (T := 84) (vs := r.cs) (by simp) 4 _ rfl
  have f5 := HK3.out.c (b := y.heap.size) (T := 84) (vs := r.cs) (by simp) 5 _ rfl
  have f6 := HK3.out.c (b := y.heap.size) (T := 84) (vs := r.cs) (by simp) 6 _ rfl
  have f7 := HK3.out.c (b := y.heap.size) (T := 84) (vs := r.cs) (by simp) 7 _ rfl
  have f8 := HK3.out.c (b := y.heap.size) (T := 84) (vs := r.cs) (by simp) 8 _ rfl
  have f9 := HK3.out.c (b := y.heap.size) (T := 84) (vs := r.cs) (by simp) 9 _ rfl
  have f10 := HK3.out.c (b := y.heap.size) (T := 84) (vs := r.cs) (by simp) 10 _ rfl
  go_wp2_with fail
  refine (has_val G2.out _).mono ?_
  rintro e y4 ⟨rfl, hb⟩
  have HK4 := Lib.hid (HK3.out.stay hb)
  clear hb HK3 c0 c1 c2 c3 c4 c5 c6 c7 f0 f1 f2 f3 f4 f5 f6 f7 f8 f9 f10
  cases g3 : inR x.to r.t0 r.t1
  · have G3 := Lib.hid g3
    clear g3
    have c0 := HK4.out.c (b := w.heap.size) (T := 37) (vs := x.cs s q) (by simp) 0 _ rfl
    have c1 := HK4.out.c (b := w.heap.size) (T := 37) (vs := x.cs s q) (by simp) 1 _ rfl
    have c2 := HK4.out.c (b := w.heap.size) (T := 37) (vs := x.cs s q) (by simp) 2 _ rfl
    have c3 := HK4.out.c (b := w.heap.size) (T := 37) (vs := x.cs s q) (by simp) 3 _ rfl
    have c4 := HK4.out.c (b := w.heap.size) (T := 37) (vs := x.cs s q) (by simp) 4 _ rfl
    have c5 := HK4.out.c (b := w.heap.size) (T := 37) (vs := x.cs s q) (by simp) 5 _ rfl
    have c6 := HK4.out.c (b := w.heap.size) (T := 37) (vs := x.cs s q) (by simp) 6 _ rfl
    have c7 := HK4.out.c (b := w.heap.size) (T := 37) (vs := x.cs s q) (by simp) 7 _ rfl
    have f0 := HK4.out.c (b := y.heap.size) (T := 84) (vs := r.cs) (by simp) 0 _ rfl
    have f1 := HK4.out.c (b := y.heap.size) (T := 84) (vs := r.cs) (by simp) 1 _ rfl
    have f2 := HK4.out.c (b := y.heap.size) (T := 84) (vs := r.cs) (by simp) 2 _ rfl
    have f3 := HK4.out.c (b := y.heap.size) (T := 84) (vs := r.cs) (by simp) 3 _ rfl
    have f4 := HK4.out.c (b := y.heap.size) (T := 84) (vs := r.cs) (by simp) 4 _ rfl
    have f5 := HK4.out.c (b := y.heap.size) (T := 84) (vs := r.cs) (by simp) 5 _ rfl
    have f6 := HK4.out.c (b := y.heap.size) (T := 84) (vs := r.cs) (by simp) 6 _ rfl
    have f7 := HK4.out.c (b := y.heap.size) (T := 84) (vs := r.cs) (by simp) 7 _ rfl
    have f8 := HK4.out.c (b := y.heap.size) (T := 84) (vs := r.cs) (by simp) 8 _ rfl
    have f9 := HK4.out.c (b := y.heap.size) (T := 84) (vs := r.cs) (by simp) 9 _ rfl
    have f10 := HK4.out.c (b := y.heap.size) (T := 84) (vs := r.cs) (by simp) 10 _ rfl
    go_wp2_with fail
    refine (has_val G3.out _).mono ?_
    rintro e y5 ⟨rfl, hb⟩
    have HK5 := Lib.hid (HK4.out.stay hb)
    clear hb HK4 c0 c1 c2 c3 c4 c5 c6 c7 f0 f1 f2 f3 f4 f5 f6 f7 f8 f9 f10
    go_wp2
    go_ret
    refine ⟨?_, HK5.out.1⟩
    unfold okI
    rw [← HS.out.len, ← HQ.out.len]
    simp only [G0.out, G1.out, G2.out, G3.out]
    rfl
  have G3 := Lib.hid g3
  clear g3
  have c0 := HK4.out.c (b := w.heap.size) (T := 37) (vs := x.cs s q) (by simp) 0 _ rfl
  have c1 := HK4.out.c (b := w.heap.size) (T := 37) (vs := x.cs s q) (by simp) 1 _ rfl
  have c2 := HK4.out.c (b := w.heap.size) (T := 37) (vs := x.cs s q) (by simp) 2 _ rfl
  have c3 := HK4.out.c (b := w.heap.size) (T := 37) (vs := x.cs s q) (by simp) 3 _ rfl
  have c4 := HK4.out.c (b := w.heap.size) (T := 37) (vs := x.cs s q) (by simp) 4 _ rfl
  have c5 := HK4.out.c (b := w.heap.size) (T := 37) (vs := x.cs s q) (by simp) 5 _ rfl
  have c6 := HK4.out.c (b := w.heap.size) (T := 37) (vs := x.cs s q) (by simp) 6 _ rfl
  have c7 := HK4.out.c (b := w.heap.size) (T := 37) (vs := x.cs s q) (by simp) 7 _ rfl
  have f0 := HK4.out.c (b := y.heap.size) (T := 84) (vs := r.cs) (by simp) 0 _ rfl
  have f1 := HK4.out.c (b := y.heap.size) (T := 84) (vs := r.cs) (by simp) 1 _ rfl
  have f2 := HK4.out.c (b := y.heap.size) (T := 84) (vs := r.cs) (by simp) 2 _ rfl
  have f3 := HK4.out.c (b := y.heap.size) (T := 84) (vs := r.cs) (by simp) 3 _ rfl
  have f4 := HK4.out.c (b := y.heap.size) (T := 84) (vs := r.cs) (by simp) 4 _ rfl
  have f5 := HK4.out.c (b := y.heap.size) (T := 84) (vs := r.cs) (by simp) 5 _ rfl
  have f6 := HK4.out.c (b := y.heap.size) (T := 84) (vs := r.cs) (by simp) 6 _ rfl
  have f7 := HK4.out.c (b := y.heap.size) (T := 84) (vs := r.cs) (by simp) 7 _ rfl
  have f8 := HK4.out.c (b := y.heap.size) (T := 84) (vs := r.cs) (by simp) 8 _ rfl
  have f9 := HK4.out.c (b := y.heap.size) (T := 84) (vs := r.cs) (by simp) 9 _ rfl
  have f10 := HK4.out.c (b := y.heap.size) (T := 84) (vs := r.cs) (by simp) 10 _ rfl
  go_wp2_with fail
  refine (has_val G3.out _).mono ?_
  rintro e y5 ⟨rfl, hb⟩
  have HK5 := Lib.hid (HK4.out.stay hb)
  clear hb HK4 c0 c1 c2 c3 c4 c5 c6 c7 f0 f1 f2 f3 f4 f5 f6 f7 f8 f9 f10
  cases g4 : inR (s.n : Int) r.s0 r.s1
  · have G4 := Lib.hid g4
    clear g4
    have c0 := HK5.out.c (b := w.heap.size) (T := 37) (vs := x.cs s q) (by simp) 0 _ rfl
    have c1 := HK5.out.c (b := w.heap.size) (T := 37) (vs := x.cs s q) (by simp) 1 _ rfl
    have c2 := HK5.out.c (b := w.heap.size) (T := 37) (vs := x.cs s q) (by simp) 2 _ rfl
    have c3 := HK5.out.c (b := w.heap.size) (T := 37) (vs := x.cs s q) (by simp) 3 _ rfl
    have c4 := HK5.out.c (b := w.heap.size) (T := 37) (vs := x.cs s q) (by simp) 4 _ rfl
    have c5 := HK5.out.c (b := w.heap.size) (T := 37) (vs := x.cs s q) (by simp) 5 _ rfl
    have c6 := HK5.out.c (b := w.heap.size) (T := 37) (vs := x.cs s q) (by simp) 6 _ rfl
    have c7 := HK5.out.c (b := w.heap.size) (T := 37) (vs := x.cs s q) (by simp) 7 _ rfl
    have f0 := HK5.out.c (b := y.heap.size) (T := 84) (vs := r.cs) (by simp) 0 _ rfl
    have f1 := HK5.out.c (b := y.heap.size) (T := 84) (vs := r.cs) (by simp) 1 _ rfl
    have f2 := HK5.out.c (b := y.heap.size) (T := 84) (vs := r.cs) (by simp) 2 _ rfl
    have f3 := HK5.out.c (b := y.heap.size) (T := 84) (vs := r.cs) (by simp) 3 _ rfl
    have f4 := HK5.out.c (b := y.heap.size) (T := 84) (vs := r.cs) (by simp) 4 _ rfl
    have f5 := HK5.out.c (b := y.heap.size) (T := 84) (vs := r.cs) (by simp) 5 _ rfl
    have f6 := HK5.out.c (b := y.heap.size) (T := 84) (vs := r.cs) (by simp) 6 _ rfl
    have f7 := HK5.out.c (b := y.heap.size) (T := 84) (vs := r.cs) (by simp) 7 _ rfl
    have f8 := HK5.out.c (b := y.heap.size) (T := 84) (vs := r.cs) (by simp) 8 _ rfl
    have f9 := HK5.out.c (b := y.heap.size) (T := 84) (vs := r.cs) (by simp) 9 _ rfl
    have f10 := HK5.out.c (b := y.heap.size) (T := 84) (vs := r.cs) (by simp) 10 _ rfl
    go_wp2_with fail
    refine (has_val G4.out _).mono ?_
    rintro e y6 ⟨rfl, hb⟩
    have HK6 := Lib.hid (HK5.out.stay hb)
    clear hb HK5 c0 c1 c2 c3 c4 c5 c6 c7 f0 f1 f2 f3 f4 f5 f6 f7 f8 f9 f10
    go_wp2
    go_ret
    refine ⟨?_, HK6.out.1⟩
    unfold okI
    rw [← HS.out.len, ← HQ.out.len]
    simp only [G0.out, G1.out, G2.out, G3.out, G4.out]
    rfl
  have G4 := Lib.hid g4
  clear g4
  have c0 := HK5.out.c (b := w.heap.size) (T := 37) (vs := x.cs s q) (by simp) 0 _ rfl
  have c1 := HK5.out.c (b := w.heap.size) (T := 37) (vs := x.cs s q) (by simp) 1 _ rfl
  have c2 := HK5.out.c (b := w.heap.size) (T := 37) (vs := x.cs s q) (by simp) 2 _ rfl
  have c3 := HK5.out.c (b := w.heap.size) (T := 37) (vs := x.cs s q) (by simp) 3 _ rfl
  have c4 := HK5.out.c (b := w.heap.size) (T := 37) (vs := x.cs s q) (by simp) 4 _ rfl
  have c5 := HK5.out.c (b := w.heap.size) (T := 37) (vs := x.cs s q) (by simp) 5 _ rfl
  have c6 := HK5.out.c (b := w.heap.size) (T := 37) (vs := x.cs s q) (by simp) 6 _ rfl
  have c7 := HK5.out.c (b := w.heap.size) (T := 37) (vs := x.cs s q) (by simp) 7 _ rfl
  have f0 := HK5.out.c (b := y.heap.size) (T := 84) (vs := r.cs) (by simp) 0 _ rfl
  have f1 := HK5.out.c (b := y.heap.size) (T := 84) (vs := r.cs) (by simp) 1 _ rfl
  have f2 := HK5.out.c (b := y.heap.size) (T := 84) (vs := r.cs) (by simp) 2 _ rfl
  have f3 := HK5.out.c (b := y.heap.size) (T := 84) (vs := r.cs) (by simp) 3 _ rfl
  have f4 := HK5.out.c (b := y.heap.size) (T := 84) (vs := r.cs) (by simp) 4 _ rfl
  have f5 := HK5.out.c (b := y.heap.size) (T := 84) (vs := r.cs) (by simp) 5 _ rfl
  have f6 := HK5.out.c (b := y.heap.size) (T := 84) (vs := r.cs) (by simp) 6 _ rfl
  have f7 := HK5.out.c (b := y.heap.size) (T := 84) (vs := r.cs) (by simp) 7 _ rfl
  have f8 := HK5.out.c (b := y.heap.size) (T := 84) (vs := r.cs) (by simp) 8 _ rfl
  have f9 := HK5.out.c (b := y.heap.size) (T := 84) (vs := r.cs) (by simp) 9 _ rfl
  have f10 := HK5.out.c (b := y.heap.size) (T := 84) (vs := r.cs) (by simp) 10 _ rfl
  go_wp2_with fail
  refine (has_val G4.out _).mono ?_
  rintro e y6 ⟨rfl, hb⟩
  have HK6 := Lib.hid (HK5.out.stay hb)
  clear hb HK5 c0 c1 c2 c3 c4 c5 c6 c7 f0 f1 f2 f3 f4 f5 f6 f7 f8 f9 f10
  cases g5 : inR (q.n : Int) r.q0 r.q1
  · have G5 := Lib.hid g5
    clear g5
    have c0 := HK6.out.c (b := w.heap.size) (T := 37) (vs := x.cs s q) (by simp) 0 _ rfl
    have c1 := HK6.out.c (b := w.heap.size) (T := 37) (vs := x.cs s q) (by simp) 1 _ rfl
    have c2 := HK6.out.c (b := w.heap.size) (T := 37) (vs := x.cs s q) (by simp) 2 _ rfl
    have c3 := HK6.out.c (b := w.heap.size) (T := 37) (vs := x.cs s q) (by simp) 3 _ rfl
    have c4 := HK6.out.c (b := w.heap.size) (T := 37) (vs := x.cs s q) (by simp) 4 _ rfl
    have c5 := HK6.out.c (b := w.heap.size) (T := 37) (vs := x.cs s q) (by simp) 5 _ rfl
    have c6 := HK6.out.c (b := w.heap.size) (T := 37) (vs := x.cs s q) (by simp) 6 _ rfl
    have c7 := HK6.out.c (b := w.heap.size) (T := 37) (vs := x.cs s q) (by simp) 7 _ rfl
    have f0 := HK6.out.c (b := y.heap.size) (T := 84) (vs := r.cs) (by simp) 0 _ rfl
    have f1 := HK6.out.c (b := y.heap.size) (T := 84) (vs := r.cs) (by simp) 1 _ rfl
    have f2 := HK6.out.c (b := y.heap.size) (T := 84) (vs := r.cs) (by simp) 2 _ rfl
    have f3 := HK6.out.c (b := y.heap.size) (T := 84) (vs := r.cs) (by simp) 3 _ rfl
    have f4 := HK6.out.c (b := y.heap.size) (T := 84) (vs := r.cs) (by simp) 4 _ rfl
    have f5 := HK6.out.c (b := y.heap.size) (T := 84) (vs := r.cs) (by simp) 5 _ rfl
    have f6 := HK6.out.c (b := y.heap.size) (T := 84) (vs := r.cs) (by simp) 6 _ rfl
    have f7 := HK6.out.c (b := y.heap.size) (T := 84) (vs := r.cs) (by simp) 7 _ rfl
    have f8 := HK6.out.c (b := y.heap.size) (T := 84) (vs := r.cs) (by simp) 8 _ rfl
    have f9 := HK6.out.c (b := y.heap.size) (T := 84) (vs := r.cs) (by simp) 9 _ rfl
    have f10 := HK6.out.c (b := y.heap.size) (T := 84) (vs := r.cs) (by simp) 10 _ rfl
    go_wp2_with fail
    refine (has_val G5.out _).mono ?_
    rintro e y7 ⟨rfl, hb⟩
    have HK7 := Lib.hid (HK6.out.stay hb)
    clear hb HK6 c0 c1 c2 c3 c4 c5 c6 c7 f0 f1 f2 f3 f4 f5 f6 f7 f8 f9 f10
    go_wp2
    go_ret
    refine ⟨?_, HK7.out.1⟩
    unfold okI
    rw [← HS.out.len, ← HQ.out.len]
    simp only [G0.out, G1.out, G2.out, G3.out, G4.out, G5.out]
    rfl
  have G5 := Lib.hid g5
  clear g5
  have c0 := HK6.out.c (b := w.heap.size) (T := 37) (vs := x.cs s q) (by simp) 0 _ rfl
  have c1 := HK6.out.c (b := w.heap.size) (T := 37) (vs := x.cs s q) (by simp) 1 _ rfl
  have c2 := HK6.out.c (b := w.heap.size) (T := 37) (vs := x.cs s q) (by simp) 2 _ rfl
  have c3 := HK6.out.c (b := w.heap.size) (T := 37) (vs := x.cs s q) (by simp) 3 _ rfl
  have c4 := HK6.out.c (b := w.heap.size) (T := 37) (vs := x.cs s q) (by simp) 4 _ rfl
  have c5 := HK6.out.c (b := w.heap.size) (T := 37) (vs := x.cs s q) (by simp) 5 _ rfl
  have c6 := HK6.out.c (b := w.heap.size) (T := 37) (vs := x.cs s q) (by simp) 6 _ rfl
  have c7 := HK6.out.c (b := w.heap.size) (T := 37) (vs := x.cs s q) (by simp) 7 _ rfl
  have f0 := HK6.out.c (b := y.heap.size) (T := 84) (vs := r.cs) (by simp) 0 _ rfl
  have f1 := HK6.out.c (b := y.heap.size) (T := 84) (vs := r.cs) (by simp) 1 _ rfl
  have f2 := HK6.out.c (b := y.heap.size) (T := 84) (vs := r.cs) (by simp) 2 _ rfl
  have f3 := HK6.out.c (b := y.heap.size) (T := 84) (vs := r.cs) (by simp) 3 _ rfl
  have f4 := HK6.out.c (b := y.heap.size) (T := 84) (vs := r.cs) (by simp) 4 _ rfl
  have f5 := HK6.out.c (b := y.heap.size) (T := 84) (vs := r.cs) (by simp) 5 _ rfl
  have f6 := HK6.out.c (b := y.heap.size) (T := 84) (vs := r.cs) (by simp) 6 _ rfl
  have f7 := HK6.out.c (b := y.heap.size) (T := 84) (vs := r.cs) (by simp) 7 _ rfl
  have f8 := HK6.out.c (b := y.heap.size) (T := 84) (vs := r.cs) (by simp) 8 _ rfl
  have f9 := HK6.out.c (b := y.heap.size) (T := 84) (vs := r.cs) (by simp) 9 _ rfl
  have f10 := HK6.out.c (b := y.heap.size) (T := 84) (vs := r.cs) (by simp) 10 _ rfl
  go_wp2_with fail
  refine (has_val G5.out _).mono ?_
  rintro e y7 ⟨rfl, hb⟩
  have HK7 := Lib.hid (HK6.out.stay hb)
  clear hb HK6 c0 c1 c2 c3 c4 c5 c6 c7 f0 f1 f2 f3 f4 f5 f6 f7 f8 f9 f10
  cases g6 : (rts [x]).all R5.ok
  · have G6 := Lib.hid g6
    clear g6
    have c0 := HK7.out.c (b := w.heap.size) (T := 37) (vs := x.cs s q) (by simp) 0 _ rfl
    have c1 := HK7.out.c (b := w.heap.size) (T := 37) (vs := x.cs s q) (by simp) 1 _ rfl
    have c2 := HK7.out.c (b := w.heap.size) (T := 37) (vs := x.cs s q) (by simp) 2 _ rfl
    have c3 := HK7.out.c (b := w.heap.size) (T := 37) (vs := x.cs s q) (by simp) 3 _ rfl
    have c4 := HK7.out.c (b := w.heap.size) (T := 37) (vs := x.cs s q) (by simp) 4 _ rfl
    have c5 := HK7.out.c (b := w.heap.size) (T := 37) (vs := x.cs s q) (by simp) 5 _ rfl
    have c6 := HK7.out.c (b := w.heap.size) (T := 37) (vs := x.cs s q) (by simp) 6 _ rfl
    have c7 := HK7.out.c (b := w.heap.size) (T := 37) (vs := x.cs s q) (by simp) 7 _ rfl
    have f0 := HK7.out.c (b := y.heap.size) (T := 84) (vs := r.cs) (by simp) 0 _ rfl
    have f1 := HK7.out.c (b := y.heap.size) (T := 84) (vs := r.cs) (by simp) 1 _ rfl
    have f2 := HK7.out.c (b := y.heap.size) (T := 84) (vs := r.cs) (by simp) 2 _ rfl
    have f3 := HK7.out.c (b := y.heap.size) (T := 84) (vs := r.cs) (by simp) 3 _ rfl
    have f4 := HK7.out.c (b := y.heap.size) (T := 84) (vs := r.cs) (by simp) 4 _ rfl
    have f5 := HK7.out.c (b := y.heap.size) (T := 84) (vs := r.cs) (by simp) 5 _ rfl
    have f6 := HK7.out.c (b := y.heap.size) (T := 84) (vs := r.cs) (by simp) 6 _ rfl
    have f7 := HK7.out.c (b := y.heap.size) (T := 84) (vs := r.cs) (by simp) 7 _ rfl
    have f8 := HK7.out.c (b := y.heap.size) (T := 84) (vs := r.cs) (by simp) 8 _ rfl
    have f9 := HK7.out.c (b := y.heap.size) (T := 84) (vs := r.cs) (by simp) 9 _ rfl
    have f10 := HK7.out.c (b := y.heap.size) (T := 84) (vs := r.cs) (by simp) 10 _ rfl
    go_wp2_with fail
    refine (rightsOk_val G6.out _ (HS.out.stay HK7.out.1) (HQ.out.stay HK7.out.1)).mono ?_
    rintro e y8 ⟨rfl, hb⟩
    have HK8 := Lib.hid (HK7.out.stay hb)
    clear hb HK7 c0 c1 c2 c3 c4 c5 c6 c7 f0 f1 f2 f3 f4 f5 f6 f7 f8 f9 f10
    go_wp2
    go_ret
    refine ⟨?_, HK8.out.1⟩
    unfold okI
    rw [← HS.out.len, ← HQ.out.len]
    simp only [G0.out, G1.out, G2.out, G3.out, G4.out, G5.out, G6.out]
    rfl
  have G6 := Lib.hid g6
  clear g6
  have c0 := HK7.out.c (b := w.heap.size) (T := 37) (vs := x.cs s q) (by simp) 0 _ rfl
  have c1 := HK7.out.c (b := w.heap.size) (T := 37) (vs := x.cs s q) (by simp) 1 _ rfl
  have c2 := HK7.out.c (b := w.heap.size) (T := 37) (vs := x.cs s q) (by simp) 2 _ rfl
  have c3 := HK7.out.c (b := w.heap.size) (T := 37) (vs := x.cs s q) (by simp) 3 _ rfl
  have c4 := HK7.out.c (b := w.heap.size) (T := 37) (vs := x.cs s q) (by simp) 4 _ rfl
  have c5 := HK7.out.c (b := w.heap.size) (T := 37) (vs := x.cs s q) (by simp) 5 _ rfl
  have c6 := HK7.out.c (b := w.heap.size) (T := 37) (vs := x.cs s q) (by simp) 6 _ rfl
  have c7 := HK7.out.c (b := w.heap.size) (T := 37) (vs := x.cs s q) (by simp) 7 _ rfl
  have f0 := HK7.out.c (b := y.heap.size) (T := 84) (vs := r.cs) (by simp) 0 _ rfl
  have f1 := HK7.out.c (b := y.heap.size) (T := 84) (vs := r.cs) (by simp) 1 _ rfl
  have f2 := HK7.out.c (b := y.heap.size) (T := 84) (vs := r.cs) (by simp) 2 _ rfl
  have f3 := HK7.out.c (b := y.heap.size) (T := 84) (vs := r.cs) (by simp) 3 _ rfl
  have f4 := HK7.out.c (b := y.heap.size) (T := 84) (vs := r.cs) (by simp) 4 _ rfl
  have f5 := HK7.out.c (b := y.heap.size) (T := 84) (vs := r.cs) (by simp) 5 _ rfl
  have f6 := HK7.out.c (b := y.heap.size) (T := 84) (vs := r.cs) (by simp) 6 _ rfl
  have f7 := HK7.out.c (b := y.heap.size) (T := 84) (vs := r.cs) (by simp) 7 _ rfl
  have f8 := HK7.out.c (b := y.heap.size) (T := 84) (vs := r.cs) (by simp) 8 _ rfl
  have f9 := HK7.out.c (b := y.heap.size) (T := 84) (vs := r.cs) (by simp) 9 _ rfl
  have f10 := HK7.out.c (b := y.heap.size) (T := 84) (vs := r.cs) (by simp) 10 _ rfl
  go_wp2_with fail
  refine (rightsOk_val G6.out _ (HS.out.stay HK7.out.1) (HQ.out.stay HK7.out.1)).mono ?_
  rintro e y8 ⟨rfl, hb⟩
  have HK8 := Lib.hid (HK7.out.stay hb)
  clear hb HK7 c0 c1 c2 c3 c4 c5 c6 c7 f0 f1 f2 f3 f4 f5 f6 f7 f8 f9 f10
  have HQZ := Lib.hid (show x.queue.length ≤ 1048576 by
    have h1 := G5.out
    have h2 := HQ1.out
    rw [← HQ.out.len]
    simp [inR] at h1
    omega)
  cases g7 : x.queue.all (inR · 0 99)
  · have G7 := Lib.hid g7
    clear g7
    have c0 := HK8.out.c (b := w.heap.size) (T := 37) (vs := x.cs s q) (by simp) 0 _ rfl
    have c1 := HK8.out.c (b := w.heap.size) (T := 37) (vs := x.cs s q) (by simp) 1 _ rfl
    have c2 := HK8.out.c (b := w.heap.size) (T := 37) (vs := x.cs s q) (by simp) 2 _ rfl
    have c3 := HK8.out.c (b := w.heap.size) (T := 37) (vs := x.cs s q) (by simp) 3 _ rfl
    have c4 := HK8.out.c (b := w.heap.size) (T := 37) (vs := x.cs s q) (by simp) 4 _ rfl
    have c5 := HK8.out.c (b := w.heap.size) (T := 37) (vs := x.cs s q) (by simp) 5 _ rfl
    have c6 := HK8.out.c (b := w.heap.size) (T := 37) (vs := x.cs s q) (by simp) 6 _ rfl
    have c7 := HK8.out.c (b := w.heap.size) (T := 37) (vs := x.cs s q) (by simp) 7 _ rfl
    have f0 := HK8.out.c (b := y.heap.size) (T := 84) (vs := r.cs) (by simp) 0 _ rfl
    have f1 := HK8.out.c (b := y.heap.size) (T := 84) (vs := r.cs) (by simp) 1 _ rfl
    have f2 := HK8.out.c (b := y.heap.size) (T := 84) (vs := r.cs) (by simp) 2 _ rfl
    have f3 := HK8.out.c (b := y.heap.size) (T := 84) (vs := r.cs) (by simp) 3 _ rfl
    have f4 := HK8.out.c (b := y.heap.size) (T := 84) (vs := r.cs) (by simp) 4 _ rfl
    have f5 := HK8.out.c (b := y.heap.size) (T := 84) (vs := r.cs) (by simp) 5 _ rfl
    have f6 := HK8.out.c (b := y.heap.size) (T := 84) (vs := r.cs) (by simp) 6 _ rfl
    have f7 := HK8.out.c (b := y.heap.size) (T := 84) (vs := r.cs) (by simp) 7 _ rfl
    have f8 := HK8.out.c (b := y.heap.size) (T := 84) (vs := r.cs) (by simp) 8 _ rfl
    have f9 := HK8.out.c (b := y.heap.size) (T := 84) (vs := r.cs) (by simp) 9 _ rfl
    have f10 := HK8.out.c (b := y.heap.size) (T := 84) (vs := r.cs) (by simp) 10 _ rfl
    go_wp2_with fail
    refine (queueOk_val G7.out _ (HQ.out.stay HK8.out.1) HQZ.out).mono ?_
    rintro e y9 ⟨rfl, hb⟩
    have HK9 := Lib.hid (HK8.out.stay hb)
    clear hb HK8 c0 c1 c2 c3 c4 c5 c6 c7 f0 f1 f2 f3 f4 f5 f6 f7 f8 f9 f10
    go_wp2
    go_ret
    refine ⟨?_, HK9.out.1⟩
    unfold okI
    rw [← HS.out.len, ← HQ.out.len]
    simp only [G0.out, G1.out, G2.out, G3.out, G4.out, G5.out, G6.out, G7.out]
    rfl
  have G7 := Lib.hid g7
  clear g7
  have c0 := HK8.out.c (b := w.heap.size) (T := 37) (vs := x.cs s q) (by simp) 0 _ rfl
  have c1 := HK8.out.c (b := w.heap.size) (T := 37) (vs := x.cs s q) (by simp) 1 _ rfl
  have c2 := HK8.out.c (b := w.heap.size) (T := 37) (vs := x.cs s q) (by simp) 2 _ rfl
  have c3 := HK8.out.c (b := w.heap.size) (T := 37) (vs := x.cs s q) (by simp) 3 _ rfl
  have c4 := HK8.out.c (b := w.heap.size) (T := 37) (vs := x.cs s q) (by simp) 4 _ rfl
  have c5 := HK8.out.c (b := w.heap.size) (T := 37) (vs := x.cs s q) (by simp) 5 _ rfl
  have c6 := HK8.out.c (b := w.heap.size) (T := 37) (vs := x.cs s q) (by simp) 6 _ rfl
  have c7 := HK8.out.c (b := w.heap.size) (T := 37) (vs := x.cs s q) (by simp) 7 _ rfl
  have f0 := HK8.out.c (b := y.heap.size) (T := 84) (vs := r.cs) (by simp) 0 _ rfl
  have f1 := HK8.out.c (b := y.heap.size) (T := 84) (vs := r.cs) (by simp) 1 _ rfl
  have f2 := HK8.out.c (b := y.heap.size) (T := 84) (vs := r.cs) (by simp) 2 _ rfl
  have f3 := HK8.out.c (b := y.heap.size) (T := 84) (vs := r.cs) (by simp) 3 _ rfl
  have f4 := HK8.out.c (b := y.heap.size) (T := 84) (vs := r.cs) (by simp) 4 _ rfl
  have f5 := HK8.out.c (b := y.heap.size) (T := 84) (vs := r.cs) (by simp) 5 _ rfl
  have f6 := HK8.out.c (b := y.heap.size) (T := 84) (vs := r.cs) (by simp) 6 _ rfl
  have f7 := HK8.out.c (b := y.heap.size) (T := 84) (vs := r.cs) (by simp) 7 _ rfl
  have f8 := HK8.out.c (b := y.heap.size) (T := 84) (vs := r.cs) (by simp) 8 _ rfl
  have f9 := HK8.out.c (b := y.heap.size) (T := 84) (vs := r.cs) (by simp) 9 _ rfl
  have f10 := HK8.out.c (b := y.heap.size) (T := 84) (vs := r.cs) (by simp) 10 _ rfl
  go_wp2_with fail
  refine (queueOk_val G7.out _ (HQ.out.stay HK8.out.1) HQZ.out).mono ?_
  rintro e y9 ⟨rfl, hb⟩
  have HK9 := Lib.hid (HK8.out.stay hb)
  clear hb HK8 c0 c1 c2 c3 c4 c5 c6 c7 f0 f1 f2 f3 f4 f5 f6 f7 f8 f9 f10
  go_wp2
  go_ret
  refine ⟨?_, HK9.out.1⟩
  unfold okI
  rw [← HS.out.len, ← HQ.out.len]
  simp only [G0.out, G1.out, G2.out, G3.out, G4.out, G5.out, G6.out, G7.out]
  rfl

theorem rowOf_q1 (k : Int) : (rowOf k).q1 ≤ 3 := by
  unfold rowOf
  repeat' split
  all_goals decide
theorem implTOk_any (x : T8) (s q : Sl) (w : World) (hs : HasR w s x.slots) (hq : HasQ w q x.queue) (hf : KF w) :
    Calls Tryd.prog 59 #[x.val s q] w fun e w' => e = .returned (.bool (okT x)) ∧ Below w.heap.size w w' := by
  cases h : inR x.kind 1 5
  · exact implTOk_out x s q w h
  · rw [okT_in h]
    exact implTOk_in x s q w hs hq _ rfl (rowOf_q1 _) h hf
end Go.Proofs.YtpahahonopiblaaDoor
