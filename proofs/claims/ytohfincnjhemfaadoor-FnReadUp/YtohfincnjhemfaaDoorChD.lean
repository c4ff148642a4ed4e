/-
  Whether a call is allowed, and what is told of it: the program's allowUse, allow and CheckCall.
-/
import Derived.Test.YtohfincnjhemfaaDoorChB
import Derived.Test.YtohfincnjhemfaaDoorChC
import Derived.Test.YtohfincnjhemfaaDoorErrAs
namespace Go.Proofs.YtohfincnjhemfaaDoor
open Go.RowKit
set_option linter.unusedVariables false
set_option maxRecDepth 100000

/-- A refusal, or none. -/
def refV (n : Int) : Value := if n = 0 then .nilIface else .iface 75 (.agg #[.int .i64 n])
theorem refV_0 : refV 0 = .nilIface := rfl
theorem refV_1 : refV (-1) = .iface 75 (.agg #[.int .i64 (-1)]) := rfl
theorem refV_2 : refV (-2) = .iface 75 (.agg #[.int .i64 (-2)]) := rfl
theorem refV_3 : refV (-3) = .iface 75 (.agg #[.int .i64 (-3)]) := rfl
theorem tabLive_of {l : List T8} {r : R5} (h1 : tabOk l = true) (h2 : r.ok = true) : tabLive l r = liveB l r := by simp [tabLive, h1, h2]
theorem kinds_len (k : Int) : (kindsOf k).length ≤ 1000 := by
  unfold kindsOf
  split
  · simp
  · split
    · simp
    · split
      · simp
      · split <;> simp
theorem implTabLive_val' {l : List T8} {s : Sl} {r : R5} {v : Bool} (h : tabLive l r = v) (w : World) (ht : HasT w s l) (hf : KF w) (hz : l.length ≤ 1048576) :
    Calls Tryd.prog 32 #[.slice s.a s.n s.c, rgt r.t r.v r.r r.w r.k] w fun e w' => e = .returned (.bool v) ∧ Below w.heap.size w w' := by
  subst h; exact implTabLive_any l s r w ht hf hz
/-- What is told, step by step. -/
theorem useV_none {l : List T8} {p : T8} {r : R5} {k : Int} (h : inR r.t 1 l.length = false) (h0 : 0 ≤ r.t) (hl : r.t ≤ l.length) : useV l p r k = -1 := by
  have : r.t = 0 := by
    have h : ¬ (1 ≤ r.t ∧ r.t ≤ l.length) := by simpa [inR] using h
    omega
  simp [useV, this]
theorem useV_kind {l : List T8} {p : T8} {r : R5} {k : Int} (h : kindOk k (thAt l r.t).kind = false) : useV l p r k = -1 := by simp [useV, h]
theorem useV_right {l : List T8} {p : T8} {r : R5} {k : Int} (h : ((!needR k || r.r) && (!needW k || r.w)) = false) : useV l p r k = -1 := by
  have : ((needR k && !r.r) || (needW k && !r.w)) = true := by
    cases hr : needR k <;> cases hw : needW k <;> cases h1 : r.r <;> cases h2 : r.w <;> simp_all
  simp only [useV, this, Bool.or_true, if_true]
theorem useV_go {l : List T8} {p : T8} {r : R5} {k : Int} (h : inR r.t 1 l.length = true) (h1 : kindOk k (thAt l r.t).kind = true) (h2 : ((!needR k || r.r) && (!needW k || r.w)) = true) :
    useV l p r k = if ((!needR k || seesT p (thAt l r.t)) && (!needW k || touT p (thAt l r.t))) = false then -2 else if (seesT p (thAt l r.t) && !liveB l r) then -3 else 0 := by
  have ht : (r.t == 0) = false := by
    have h : 1 ≤ r.t ∧ r.t ≤ l.length := by simpa [inR] using h
    simp; omega
  have e1 : ((needR k && !r.r) || (needW k && !r.w)) = false := by
    cases hr : needR k <;> cases hw : needW k <;> cases h1 : r.r <;> cases h2 : r.w <;> simp_all
  have e2 : ((needR k && !seesT p (thAt l r.t)) || (needW k && !touT p (thAt l r.t))) = !((!needR k || seesT p (thAt l r.t)) && (!needW k || touT p (thAt l r.t))) := by
    cases needR k <;> cases needW k <;> cases seesT p (thAt l r.t) <;> cases touT p (thAt l r.t) <;> rfl
  simp only [useV, ht, h1, e1, e2, Bool.not_true, Bool.or_false, Bool.false_eq_true, if_false]
  cases ((!needR k || seesT p (thAt l r.t)) && (!needW k || touT p (thAt l r.t))) <;> rfl

set_option maxHeartbeats 8000000 in
theorem allowUse_any (l : List T8) (s : Sl) (p : T8) (ss qs : Sl) (r : R5) (k : Int) (b : Nat) (w : World) (ht : HasT w s l) (hf : KF w) (hq : HasQ w (slq b (kindsOf k).length) (kindsOf k)) (hz : l.length ≤ 1048576) (h1 : tabOk l = true) (h2 : r.ok = true) (h3 : r.t ≤ l.length) :
    Calls Tryd.prog 93 #[.slice s.a s.n s.c, p.val ss qs, rgt r.t r.v r.r r.w r.k, .agg (reqC b (kindsOf k).length (needR k) (needW k))] w fun e w' => e = .returned (refV (useV l p r k)) ∧ Below w.heap.size w w' := by
  have hk := ((((Kn.refl (w := w)).new 33 (p.cs ss qs)).new 43 r.cs).new 126 (reqC b (kindsOf k).length (needR k) (needW k)))
  rw [show ((w.alloc (.cells (p.cs ss qs) 33)).alloc (.cells r.cs 43)).heap.size = w.heap.size + 1 + 1 by simp, show (w.alloc (.cells (p.cs ss qs) 33)).heap.size = w.heap.size + 1 by simp] at hk
  have HK0 := Lib.hid hk
  have HT := Lib.hid ht
  have HF := Lib.hid hf
  have H1 := Lib.hid h1
  have H2 := Lib.hid h2
  have H3 := Lib.hid h3
  have HL := Lib.hid (tabLive_of h1 h2)
  have HC := Lib.hid (fun (d : Int) (u : Bool) (hu : inL (kindsOf k) d = u) (y : World) (h : Below w.heap.size w y) => contains_val (b := b) (c := (kindsOf k).length) hu y (hq.stay h) (kinds_len k))
  clear hk ht hf hq h1 h2 h3
  generalize hN : (kindsOf k).length = N at *
  have HN := Lib.hid hN
  clear hN
  obtain ⟨nr, hnr⟩ : ∃ nr, needR k = nr := ⟨_, rfl⟩
  obtain ⟨nw, hnw⟩ : ∃ nw, needW k = nw := ⟨_, rfl⟩
  rw [hnr, hnw] at HK0 ⊢
  have HNR := Lib.hid hnr
  have HNW := Lib.hid hnw
  clear hnr hnw
  go_enter Tryd.func93, Tryd.ntmps93
  go_wp2_with fail
  refine (thingAt_get l s r.t _ (HT.out.stay HK0.out.1) hz).mono ?_
  rintro e y1 ⟨x, s2, q2, b2, rfl, g1, g2, hb⟩
  have HK1 := Lib.hid ((HK0.out.stay hb).new 33 (x.cs s2 q2))
  have HK1' := Lib.hid (HK0.out.stay hb)
  have G1 := Lib.hid g1
  have G2 := Lib.hid g2
  clear hb HK0 g1 g2
  have lt1 := (HK1'.out.box (b := w.heap.size) (T := 33) (vs := p.cs ss qs) (by simp)).lt
  have lt2 := (HK1'.out.box (b := w.heap.size + 1) (T := 43) (vs := r.cs) (by simp)).lt
  have lt3 := (HK1'.out.box (b := w.heap.size + 1 + 1) (T := 126) (vs := reqC b N nr nw) (by simp)).lt
  have p0 := HK1'.out.c (b := w.heap.size) (T := 33) (vs := p.cs ss qs) (by simp) 0 _ rfl
  have p1 := HK1'.out.c (b := w.heap.size) (T := 33) (vs := p.cs ss qs) (by simp) 1 _ rfl
  have p2 := HK1'.out.c (b := w.heap.size) (T := 33) (vs := p.cs ss qs) (by simp) 2 _ rfl
  have p3 := HK1'.out.c (b := w.heap.size) (T := 33) (vs := p.cs ss qs) (by simp) 3 _ rfl
  have p4 := HK1'.out.c (b := w.heap.size) (T := 33) (vs := p.cs ss qs) (by simp) 4 _ rfl
  have p5 := HK1'.out.c (b := w.heap.size) (T := 33) (vs := p.cs ss qs) (by simp) 5 _ rfl
  have p6 := HK1'.out.c (b := w.heap.size) (T := 33) (vs := p.cs ss qs) (by simp) 6 _ rfl
  have p7 := HK1'.out.c (b := w.heap.size) (T := 33) (vs := p.cs ss qs) (by simp) 7 _ rfl
  have r0 := HK1'.out.c (b := w.heap.size + 1) (T := 43) (vs := r.cs) (by simp) 0 _ rfl
  have r1 := HK1'.out.c (b := w.heap.size + 1) (T := 43) (vs := r.cs) (by simp) 1 _ rfl
  have r2 := HK1'.out.c (b := w.heap.size + 1) (T := 43) (vs := r.cs) (by simp) 2 _ rfl
  have r3 := HK1'.out.c (b := w.heap.size + 1) (T := 43) (vs := r.cs) (by simp) 3 _ rfl
  have r4 := HK1'.out.c (b := w.heap.size + 1) (T := 43) (vs := r.cs) (by simp) 4 _ rfl
  have m0 := HK1'.out.c (b := w.heap.size + 1 + 1) (T := 126) (vs := reqC b N nr nw) (by simp) 0 _ rfl
  have m1 := HK1'.out.c (b := w.heap.size + 1 + 1) (T := 126) (vs := reqC b N nr nw) (by simp) 1 _ rfl
  have m2 := HK1'.out.c (b := w.heap.size + 1 + 1) (T := 126) (vs := reqC b N nr nw) (by simp) 2 _ rfl
  clear HK1'
  cases b2
  · go_wp2
    go_ret
    refine ⟨?_, HK1.out.1⟩
    rw [useV_none G1.out.symm (R5.bd H2.out).1 H3.out, refV_1]
    rfl
  obtain ⟨u1, hu1⟩ : ∃ u1, inL (kindsOf k) x.kind = u1 := ⟨_, rfl⟩
  have HU1 := Lib.hid hu1
  clear hu1
  have EX := Lib.hid (G2.out (by simp))
  go_wp2_with fail
  refine (HC.out _ _ HU1.out _ HK1.out.1).mono ?_
  rintro e y2 ⟨rfl, rfl⟩
  cases u1
  · go_wp2
    go_ret
    refine ⟨?_, HK1.out.1⟩
    rw [useV_kind (by rw [← EX.out]; exact HU1.out), refV_1]
    rfl
  obtain ⟨u2, hu2⟩ : ∃ u2, ((!nr || r.r) && (!nw || r.w)) = u2 := ⟨_, rfl⟩
  have HU2 := Lib.hid hu2
  clear hu2
  go_wp2_with fail
  refine (rightSuff_val HU2.out _).mono ?_
  rintro e y3 ⟨rfl, hb⟩
  have HK2 := Lib.hid (HK1.out.stay hb)
  clear hb HK1 p0 p1 p2 p3 p4 p5 p6 p7 r0 r1 r2 r3 r4 m0 m1 m2
  cases u2
  · go_wp2
    go_ret
    refine ⟨?_, HK2.out.1⟩
    rw [useV_right (by rw [HNR.out, HNW.out]; exact HU2.out), refV_1]
    rfl
  have HG := Lib.hid (show useV l p r k = if ((!nr || seesT p x) && (!nw || touT p x)) = false then -2 else if (seesT p x && !liveB l r) then -3 else 0 by
    have h := useV_go (l := l) (p := p) (r := r) (k := k) G1.out.symm (by rw [← EX.out]; exact HU1.out) (by rw [HNR.out, HNW.out]; exact HU2.out)
    rw [HNR.out, HNW.out, ← EX.out] at h
    exact h)
  obtain ⟨u3, hu3⟩ : ∃ u3, ((!nr || seesT p x) && (!nw || touT p x)) = u3 := ⟨_, rfl⟩
  have HU3 := Lib.hid hu3
  clear hu3
  have p0 := HK2.out.c (b := w.heap.size) (T := 33) (vs := p.cs ss qs) (by simp) 0 _ rfl
  have p1 := HK2.out.c (b := w.heap.size) (T := 33) (vs := p.cs ss qs) (by simp) 1 _ rfl
  have p2 := HK2.out.c (b := w.heap.size) (T := 33) (vs := p.cs ss qs) (by simp) 2 _ rfl
  have p3 := HK2.out.c (b := w.heap.size) (T := 33) (vs := p.cs ss qs) (by simp) 3 _ rfl
  have p4 := HK2.out.c (b := w.heap.size) (T := 33) (vs := p.cs ss qs) (by simp) 4 _ rfl
  have p5 := HK2.out.c (b := w.heap.size) (T := 33) (vs := p.cs ss qs) (by simp) 5 _ rfl
  have p6 := HK2.out.c (b := w.heap.size) (T := 33) (vs := p.cs ss qs) (by simp) 6 _ rfl
  have p7 := HK2.out.c (b := w.heap.size) (T := 33) (vs := p.cs ss qs) (by simp) 7 _ rfl
  have m0 := HK2.out.c (b := w.heap.size + 1 + 1) (T := 126) (vs := reqC b N nr nw) (by simp) 0 _ rfl
  have m1 := HK2.out.c (b := w.heap.size + 1 + 1) (T := 126) (vs := reqC b N nr nw) (by simp) 1 _ rfl
  have m2 := HK2.out.c (b := w.heap.size + 1 + 1) (T := 126) (vs := reqC b N nr nw) (by simp) 2 _ rfl
  have x0 := HK2.out.c (b := y1.heap.size) (T := 33) (vs := x.cs s2 q2) (by simp) 0 _ rfl
  have x1 := HK2.out.c (b := y1.heap.size) (T := 33) (vs := x.cs s2 q2) (by simp) 1 _ rfl
  have x2 := HK2.out.c (b := y1.heap.size) (T := 33) (vs := x.cs s2 q2) (by simp) 2 _ rfl
  have x3 := HK2.out.c (b := y1.heap.size) (T := 33) (vs := x.cs s2 q2) (by simp) 3 _ rfl
  have x4 := HK2.out.c (b := y1.heap.size) (T := 33) (vs := x.cs s2 q2) (by simp) 4 _ rfl
  have x5 := HK2.out.c (b := y1.heap.size) (T := 33) (vs := x.cs s2 q2) (by simp) 5 _ rfl
  have x6 := HK2.out.c (b := y1.heap.size) (T := 33) (vs := x.cs s2 q2) (by simp) 6 _ rfl
  have x7 := HK2.out.c (b := y1.heap.size) (T := 33) (vs := x.cs s2 q2) (by simp) 7 _ rfl
  go_wp2_with fail
  refine (labSuff_val HU3.out ss qs s2 q2 _).mono ?_
  rintro e y4 ⟨rfl, hb⟩
  have HK3 := Lib.hid (HK2.out.stay hb)
  clear hb HK2 p0 p1 p2 p3 p4 p5 p6 p7 m0 m1 m2 x0 x1 x2 x3 x4 x5 x6 x7
  cases u3
  · go_wp2
    go_ret
    refine ⟨?_, HK3.out.1⟩
    rw [HG.out, HU3.out]
    rfl
  obtain ⟨u4, hu4⟩ : ∃ u4, seesT p x = u4 := ⟨_, rfl⟩
  have HU4 := Lib.hid hu4
  clear hu4
  have p0 := HK3.out.c (b := w.heap.size) (T := 33) (vs := p.cs ss qs) (by simp) 0 _ rfl
  have p1 := HK3.out.c (b := w.heap.size) (T := 33) (vs := p.cs ss qs) (by simp) 1 _ rfl
  have p2 := HK3.out.c (b := w.heap.size) (T := 33) (vs := p.cs ss qs) (by simp) 2 _ rfl
  have p3 := HK3.out.c (b := w.heap.size) (T := 33) (vs := p.cs ss qs) (by simp) 3 _ rfl
  have p4 := HK3.out.c (b := w.heap.size) (T := 33) (vs := p.cs ss qs) (by simp) 4 _ rfl
  have p5 := HK3.out.c (b := w.heap.size) (T := 33) (vs := p.cs ss qs) (by simp) 5 _ rfl
  have p6 := HK3.out.c (b := w.heap.size) (T := 33) (vs := p.cs ss qs) (by simp) 6 _ rfl
  have p7 := HK3.out.c (b := w.heap.size) (T := 33) (vs := p.cs ss qs) (by simp) 7 _ rfl
  have x0 := HK3.out.c (b := y1.heap.size) (T := 33) (vs := x.cs s2 q2) (by simp) 0 _ rfl
  have x1 := HK3.out.c (b := y1.heap.size) (T := 33) (vs := x.cs s2 q2) (by simp) 1 _ rfl
  have x2 := HK3.out.c (b := y1.heap.size) (T := 33) (vs := x.cs s2 q2) (by simp) 2 _ rfl
  have x3 := HK3.out.c (b := y1.heap.size) (T := 33) (vs := x.cs s2 q2) (by simp) 3 _ rfl
  have x4 := HK3.out.c (b := y1.heap.size) (T := 33) (vs := x.cs s2 q2) (by simp) 4 _ rfl
  have x5 := HK3.out.c (b := y1.heap.size) (T := 33) (vs := x.cs s2 q2) (by simp) 5 _ rfl
  have x6 := HK3.out.c (b := y1.heap.size) (T := 33) (vs := x.cs s2 q2) (by simp) 6 _ rfl
  have x7 := HK3.out.c (b := y1.heap.size) (T := 33) (vs := x.cs s2 q2) (by simp) 7 _ rfl
  go_wp2_with fail
  refine (observes_val HU4.out ss qs s2 q2 _).mono ?_
  rintro e y5 ⟨rfl, hb⟩
  have HK4 := Lib.hid (HK3.out.stay hb)
  clear hb HK3 p0 p1 p2 p3 p4 p5 p6 p7 x0 x1 x2 x3 x4 x5 x6 x7
  cases u4
  · go_wp2
    go_ret
    refine ⟨?_, HK4.out.1⟩
    rw [HG.out, HU3.out, HU4.out]
    rfl
  obtain ⟨u5, hu5⟩ : ∃ u5, tabLive l r = u5 := ⟨_, rfl⟩
  have HU5 := Lib.hid hu5
  clear hu5
  have r0 := HK4.out.c (b := w.heap.size + 1) (T := 43) (vs := r.cs) (by simp) 0 _ rfl
  have r1 := HK4.out.c (b := w.heap.size + 1) (T := 43) (vs := r.cs) (by simp) 1 _ rfl
  have r2 := HK4.out.c (b := w.heap.size + 1) (T := 43) (vs := r.cs) (by simp) 2 _ rfl
  have r3 := HK4.out.c (b := w.heap.size + 1) (T := 43) (vs := r.cs) (by simp) 3 _ rfl
  have r4 := HK4.out.c (b := w.heap.size + 1) (T := 43) (vs := r.cs) (by simp) 4 _ rfl
  go_wp2_with fail
  refine (implTabLive_val' HU5.out _ (HT.out.stay HK4.out.1) (HF.out.stay HK4.out.1) hz).mono ?_
  rintro e y6 ⟨rfl, hb⟩
  have HK5 := Lib.hid (HK4.out.stay hb)
  clear hb HK4 r0 r1 r2 r3 r4
  have HLV := Lib.hid (HL.out.symm.trans HU5.out)
  cases u5
  · go_wp2
    go_ret
    refine ⟨?_, HK5.out.1⟩
    rw [HG.out, HU3.out, HU4.out, HLV.out]
    rfl
  · go_wp2
    go_ret
    refine ⟨?_, HK5.out.1⟩
    rw [HG.out, HU3.out, HU4.out, HLV.out]
    rfl
end Go.Proofs.YtohfincnjhemfaaDoor
