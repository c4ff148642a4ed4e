/-
  Texts of ours as one: ChD, ChE, ChF, ChG, CkA.
-/
import Derived.Test.YtbopficnajdaoaaGreatDoorChB
import Derived.Test.YtbopficnajdaoaaGreatDoorChC
import Derived.Test.YtbopficnajdaoaaGreatDoorErrAs
namespace Go.Proofs.YtbopficnajdaoaaGreatDoor
open Go.RowKit
set_option linter.unusedVariables false
set_option maxRecDepth 100000

/-- A refusal, or none. -/
def refV (n : Int) : Value := if n = 0 then .nilIface else .iface 59 (.agg #[.int .i64 n])
theorem refV_0 : refV 0 = .nilIface := rfl
theorem refV_1 : refV (-1) = .iface 59 (.agg #[.int .i64 (-1)]) := rfl
theorem refV_2 : refV (-2) = .iface 59 (.agg #[.int .i64 (-2)]) := rfl
theorem refV_3 : refV (-3) = .iface 59 (.agg #[.int .i64 (-3)]) := rfl
theorem tabLive_of {l : List T8} {r : R5} (h1 : tabOk l = true) (h2 : r.ok = true) : tabLive l r = liveB l r := by simp [tabLive, h1, h2]
theorem kinds_len (k : Int) : (kindsOf k).length ≤ 1000 := by
  unfold kindsOf
  split
  · simp
  · split
    · simp
    · split
      · simp
      · split <;> simp
theorem implTabLive_val' {l : List T8} {s : Sl} {r : R5} {v : Bool} (h : tabLive l r = v) (w : World) (ht : HasT w s l) (hf : KF w) (hz : l.length ≤ 1048576) :
    Calls Tryz.prog 27 #[.slice s.a s.n s.c, rgt r.t r.v r.r r.w r.k] w fun e w' => e = .returned (.bool v) ∧ Below w.heap.size w w' := by
  subst h; exact implTabLive_any l s r w ht hf hz
/-- What is told, step by step. -/
theorem useV_none {l : List T8} {p : T8} {r : R5} {k : Int} (h : inR r.t 1 l.length = false) (h0 : 0 ≤ r.t) (hl : r.t ≤ l.length) : useV l p r k = -1 := by
  have : r.t = 0 := by
    have h : ¬ (1 ≤ r.t ∧ r.t ≤ l.length) := by simpa [inR] using h
    omega
  simp [useV, this]
theorem useV_kind {l : List T8} {p : T8} {r : R5} {k : Int} (h : kindOk k (thAt l r.t).kind = false) : useV l p r k = -1 := by simp [useV, h]
theorem useV_right {l : List T8} {p : T8} {r : R5} {k : Int} (h : ((!needR k || r.r) && (!needW k || r.w)) = false) : useV l p r k = -1 := by
  have : ((needR k && !r.r) || (needW k && !r.w)) = true := by
    cases hr : needR k <;> cases hw : needW k <;> cases h1 : r.r <;> cases h2 : r.w <;> simp_all
  simp only [useV, this, Bool.or_true, if_true]
theorem useV_go {l : List T8} {p : T8} {r : R5} {k : Int} (h : inR r.t 1 l.length = true) (h1 : kindOk k (thAt l r.t).kind = true) (h2 : ((!needR k || r.r) && (!needW k || r.w)) = true) :
    useV l p r k = if ((!needR k || seesT p (thAt l r.t)) && (!needW k || touT p (thAt l r.t))) = false then -2 else if (seesT p (thAt l r.t) && !liveB l r) then -3 else 0 := by
  have ht : (r.t == 0) = false := by
    have h : 1 ≤ r.t ∧ r.t ≤ l.length := by simpa [inR] using h
    simp; omega
  have e1 : ((needR k && !r.r) || (needW k && !r.w)) = false := by
    cases hr : needR k <;> cases hw : needW k <;> cases h1 : r.r <;> cases h2 : r.w <;> simp_all
  have e2 : ((needR k && !seesT p (thAt l r.t)) || (needW k && !touT p (thAt l r.t))) = !((!needR k || seesT p (thAt l r.t)) && (!needW k || touT p (thAt l r.t))) := by
    cases needR k <;> cases needW k <;> cases seesT p (thAt l r.t) <;> cases touT p (thAt l r.t) <;> rfl
  simp only [useV, ht, h1, e1, e2, Bool.not_true, Bool.or_false, Bool.false_eq_true, if_false]
  cases ((!needR k || seesT p (thAt l r.t)) && (!needW k || touT p (thAt l r.t))) <;> rfl

set_option maxHeartbeats 8000000 in
theorem allowUse_any (l : List T8) (s : Sl) (p : T8) (ss qs : Sl) (r : R5) (k : Int) (b : Nat) (w : World) (ht : HasT w s l) (hf : KF w) (hq : HasQ w (slq b (kindsOf k).length) (kindsOf k)) (hz : l.length ≤ 1048576) (h1 : tabOk l = true) (h2 : r.ok = true) (h3 : r.t ≤ l.length) :
    Calls Tryz.prog 74 #[.slice s.a s.n s.c, p.val ss qs, rgt r.t r.v r.r r.w r.k, .agg (reqC b (kindsOf k).length (needR k) (needW k))] w fun e w' => e = .returned (refV (useV l p r k)) ∧ Below w.heap.size w w' := by
  have hk := ((((Kn.refl (w := w)).new 40 (p.cs ss qs)).new 34 r.cs).new 110 (reqC b (kindsOf k).length (needR k) (needW k)))
  rw [show ((w.alloc (.cells (p.cs ss qs) 40)).alloc (.cells r.cs 34)).heap.size = w.heap.size + 1 + 1 by simp, show (w.alloc (.cells (p.cs ss qs) 40)).heap.size = w.heap.size + 1 by simp] at hk
  have HK0 := Lib.hid hk
  have HT := Lib.hid ht
  have HF := Lib.hid hf
  have H1 := Lib.hid h1
  have H2 := Lib.hid h2
  have H3 := Lib.hid h3
  have HL := Lib.hid (tabLive_of h1 h2)
  have HC := Lib.hid (fun (d : Int) (u : Bool) (hu : inL (kindsOf k) d = u) (y : World) (h : Below w.heap.size w y) => contains_val (b := b) (c := (kindsOf k).length) hu y (hq.stay h) (kinds_len k))
  clear hk ht hf hq h1 h2 h3
  generalize hN : (kindsOf k).length = N at *
  have HN := Lib.hid hN
  clear hN
  obtain ⟨nr, hnr⟩ : ∃ nr, needR k = nr := ⟨_, rfl⟩
  obtain ⟨nw, hnw⟩ : ∃ nw, needW k = nw := ⟨_, rfl⟩
  rw [hnr, hnw] at HK0 ⊢
  have HNR := Lib.hid hnr
  have HNW := Lib.hid hnw
  clear hnr hnw
  go_enter Tryz.func74, Tryz.ntmps74
  go_wp2_with fail
  refine (thingAt_get l s r.t _ (HT.out.stay HK0.out.1) hz).mono ?_
  rintro e y1 ⟨x, s2, q2, b2, rfl, g1, g2, hb⟩
  have HK1 := Lib.hid ((HK0.out.stay hb).new 40 (x.cs s2 q2))
  have HK1' := Lib.hid (HK0.out.stay hb)
  have G1 := Lib.hid g1
  have G2 := Lib.hid g2
  clear hb HK0 g1 g2
  have lt1 := (HK1'.out.box (b := w.heap.size) (T := 40) (vs := p.cs ss qs) (by simp)).lt
  have lt2 := (HK1'.out.box (b := w.heap.size + 1) (T := 34) (vs := r.cs) (by simp)).lt
  have lt3 := (HK1'.out.box (b := w.heap.size + 1 + 1) (T := 110) (vs := reqC b N nr nw) (by simp)).lt
  have p0 := HK1'.out.c (b := w.heap.size) (T := 40) (vs := p.cs ss qs) (by simp) 0 _ rfl
  have p1 := HK1'.out.c (b := w.heap.size) (T := 40) (vs := p.cs ss qs) (by simp) 1 _ rfl
  have p2 := HK1'.out.c (b := w.heap.size) (T := 40) (vs := p.cs ss qs) (by simp) 2 _ rfl
  have p3 := HK1'.out.c (b := w.heap.size) (T := 40) (vs := p.cs ss qs) (by simp) 3 _ rfl
  have p4 := HK1'.out.c (b := w.heap.size) (T := 40) (vs := p.cs ss qs) (by simp) 4 _ rfl
  have p5 := HK1'.out.c (b := w.heap.size) (T := 40) (vs := p.cs ss qs) (by simp) 5 _ rfl
  have p6 := HK1'.out.c (b := w.heap.size) (T := 40) (vs := p.cs ss qs) (by simp) 6 _ rfl
  have p7 := HK1'.out.c (b := w.heap.size) (T := 40) (vs := p.cs ss qs) (by simp) 7 _ rfl
  have r0 := HK1'.out.c (b := w.heap.size + 1) (T := 34) (vs := r.cs) (by simp) 0 _ rfl
  have r1 := HK1'.out.c (b := w.heap.size + 1) (T := 34) (vs := r.cs) (by simp) 1 _ rfl
  have r2 := HK1'.out.c (b := w.heap.size + 1) (T := 34) (vs := r.cs) (by simp) 2 _ rfl
  have r3 := HK1'.out.c (b := w.heap.size + 1) (T := 34) (vs := r.cs) (by simp) 3 _ rfl
  have r4 := HK1'.out.c (b := w.heap.size + 1) (T := 34) (vs := r.cs) (by simp) 4 _ rfl
  have m0 := HK1'.out.c (b := w.heap.size + 1 + 1) (T := 110) (vs := reqC b N nr nw) (by simp) 0 _ rfl
  have m1 := HK1'.out.c (b := w.heap.size + 1 + 1) (T := 110) (vs := reqC b N nr nw) (by simp) 1 _ rfl
  have m2 := HK1'.out.c (b := w.heap.size + 1 + 1) (T := 110) (vs := reqC b N nr nw) (by simp) 2 _ rfl
  clear HK1'
  cases b2
  · go_wp2
    go_ret
    refine ⟨?_, HK1.out.1⟩
    rw [useV_none G1.out.symm (R5.bd H2.out).1 H3.out, refV_1]
    rfl
  obtain ⟨u1, hu1⟩ : ∃ u1, inL (kindsOf k) x.kind = u1 := ⟨_, rfl⟩
  have HU1 := Lib.hid hu1
  clear hu1
  have EX := Lib.hid (G2.out (by simp))
  go_wp2_with fail
  refine (HC.out _ _ HU1.out _ HK1.out.1).mono ?_
  rintro e y2 ⟨rfl, rfl⟩
  cases u1
  · go_wp2
    go_ret
    refine ⟨?_, HK1.out.1⟩
    rw [useV_kind (by rw [← EX.out]; exact HU1.out), refV_1]
    rfl
  obtain ⟨u2, hu2⟩ : ∃ u2, ((!nr || r.r) && (!nw || r.w)) = u2 := ⟨_, rfl⟩
  have HU2 := Lib.hid hu2
  clear hu2
  go_wp2_with fail
  refine (rightSuff_val HU2.out _).mono ?_
  rintro e y3 ⟨rfl, hb⟩
  have HK2 := Lib.hid (HK1.out.stay hb)
  clear hb HK1 p0 p1 p2 p3 p4 p5 p6 p7 r0 r1 r2 r3 r4 m0 m1 m2
  cases u2
  · go_wp2
    go_ret
    refine ⟨?_, HK2.out.1⟩
    rw [useV_right (by rw [HNR.out, HNW.out]; exact HU2.out), refV_1]
    rfl
  have HG := Lib.hid (show useV l p r k = if ((!nr || seesT p x) && (!nw || touT p x)) = false then -2 else if (seesT p x && !liveB l r) then -3 else 0 by
    have h := useV_go (l := l) (p := p) (r := r) (k := k) G1.out.symm (by rw [← EX.out]; exact HU1.out) (by rw [HNR.out, HNW.out]; exact HU2.out)
    rw [HNR.out, HNW.out, ← EX.out] at h
    exact h)
  obtain ⟨u3, hu3⟩ : ∃ u3, ((!nr || seesT p x) && (!nw || touT p x)) = u3 := ⟨_, rfl⟩
  have HU3 := Lib.hid hu3
  clear hu3
  have p0 := HK2.out.c (b := w.heap.size) (T := 40) (vs := p.cs ss qs) (by simp) 0 _ rfl
  have p1 := HK2.out.c (b := w.heap.size) (T := 40) (vs := p.cs ss qs) (by simp) 1 _ rfl
  have p2 := HK2.out.c (b := w.heap.size) (T := 40) (vs := p.cs ss qs) (by simp) 2 _ rfl
  have p3 := HK2.out.c (b := w.heap.size) (T := 40) (vs := p.cs ss qs) (by simp) 3 _ rfl
  have p4 := HK2.out.c (b := w.heap.size) (T := 40) (vs := p.cs ss qs) (by simp) 4 _ rfl
  have p5 := HK2.out.c (b := w.heap.size) (T := 40) (vs := p.cs ss qs) (by simp) 5 _ rfl
  have p6 := HK2.out.c (b := w.heap.size) (T := 40) (vs := p.cs ss qs) (by simp) 6 _ rfl
  have p7 := HK2.out.c (b := w.heap.size) (T := 40) (vs := p.cs ss qs) (by simp) 7 _ rfl
  have m0 := HK2.out.c (b := w.heap.size + 1 + 1) (T := 110) (vs := reqC b N nr nw) (by simp) 0 _ rfl
  have m1 := HK2.out.c (b := w.heap.size + 1 + 1) (T := 110) (vs := reqC b N nr nw) (by simp) 1 _ rfl
  have m2 := HK2.out.c (b := w.heap.size + 1 + 1) (T := 110) (vs := reqC b N nr nw) (by simp) 2 _ rfl
  have x0 := HK2.out.c (b := y1.heap.size) (T := 40) (vs := x.cs s2 q2) (by simp) 0 _ rfl
  have x1 := HK2.out.c (b := y1.heap.size) (T := 40) (vs := x.cs s2 q2) (by simp) 1 _ rfl
  have x2 := HK2.out.c (b := y1.heap.size) (T := 40) (vs := x.cs s2 q2) (by simp) 2 _ rfl
  have x3 := HK2.out.c (b := y1.heap.size) (T := 40) (vs := x.cs s2 q2) (by simp) 3 _ rfl
  have x4 := HK2.out.c (b := y1.heap.size) (T := 40) (vs := x.cs s2 q2) (by simp) 4 _ rfl
  have x5 := HK2.out.c (b := y1.heap.size) (T := 40) (vs := x.cs s2 q2) (by simp) 5 _ rfl
  have x6 := HK2.out.c (b := y1.heap.size) (T := 40) (vs := x.cs s2 q2) (by simp) 6 _ rfl
  have x7 := HK2.out.c (b := y1.heap.size) (T := 40) (vs := x.cs s2 q2) (by simp) 7 _ rfl
  go_wp2_with fail
  refine (labSuff_val HU3.out ss qs s2 q2 _).mono ?_
  rintro e y4 ⟨rfl, hb⟩
  have HK3 := Lib.hid (HK2.out.stay hb)
  clear hb HK2 p0 p1 p2 p3 p4 p5 p6 p7 m0 m1 m2 x0 x1 x2 x3 x4 x5 x6 x7
  cases u3
  · go_wp2
    go_ret
    refine ⟨?_, HK3.out.1⟩
    rw [HG.out, HU3.out]
    rfl
  obtain ⟨u4, hu4⟩ : ∃ u4, seesT p x = u4 := ⟨_, rfl⟩
  have HU4 := Lib.hid hu4
  clear hu4
  have p0 := HK3.out.c (b := w.heap.size) (T := 40) (vs := p.cs ss qs) (by simp) 0 _ rfl
  have p1 := HK3.out.c (b := w.heap.size) (T := 40) (vs := p.cs ss qs) (by simp) 1 _ rfl
  have p2 := HK3.out.c (b := w.heap.size) (T := 40) (vs := p.cs ss qs) (by simp) 2 _ rfl
  have p3 := HK3.out.c (b := w.heap.size) (T := 40) (vs := p.cs ss qs) (by simp) 3 _ rfl
  have p4 := HK3.out.c (b := w.heap.size) (T := 40) (vs := p.cs ss qs) (by simp) 4 _ rfl
  have p5 := HK3.out.c (b := w.heap.size) (T := 40) (vs := p.cs ss qs) (by simp) 5 _ rfl
  have p6 := HK3.out.c (b := w.heap.size) (T := 40) (vs := p.cs ss qs) (by simp) 6 _ rfl
  have p7 := HK3.out.c (b := w.heap.size) (T := 40) (vs := p.cs ss qs) (by simp) 7 _ rfl
  have x0 := HK3.out.c (b := y1.heap.size) (T := 40) (vs := x.cs s2 q2) (by simp) 0 _ rfl
  have x1 := HK3.out.c (b := y1.heap.size) (T := 40) (vs := x.cs s2 q2) (by simp) 1 _ rfl
  have x2 := HK3.out.c (b := y1.heap.size) (T := 40) (vs := x.cs s2 q2) (by simp) 2 _ rfl
  have x3 := HK3.out.c (b := y1.heap.size) (T := 40) (vs := x.cs s2 q2) (by simp) 3 _ rfl
  have x4 := HK3.out.c (b := y1.heap.size) (T := 40) (vs := x.cs s2 q2) (by simp) 4 _ rfl
  have x5 := HK3.out.c (b := y1.heap.size) (T := 40) (vs := x.cs s2 q2) (by simp) 5 _ rfl
  have x6 := HK3.out.c (b := y1.heap.size) (T := 40) (vs := x.cs s2 q2) (by simp) 6 _ rfl
  have x7 := HK3.out.c (b := y1.heap.size) (T := 40) (vs := x.cs s2 q2) (by simp) 7 _ rfl
  go_wp2_with fail
  refine (observes_val HU4.out ss qs s2 q2 _).mono ?_
  rintro e y5 ⟨rfl, hb⟩
  have HK4 := Lib.hid (HK3.out.stay hb)
  clear hb HK3 p0 p1 p2 p3 p4 p5 p6 p7 x0 x1 x2 x3 x4 x5 x6 x7
  cases u4
  · go_wp2
    go_ret
    refine ⟨?_, HK4.out.1⟩
    rw [HG.out, HU3.out, HU4.out]
    rfl
  obtain ⟨u5, hu5⟩ : ∃ u5, tabLive l r = u5 := ⟨_, rfl⟩
  have HU5 := Lib.hid hu5
  clear hu5
  have r0 := HK4.out.c (b := w.heap.size + 1) (T := 34) (vs := r.cs) (by simp) 0 _ rfl
  have r1 := HK4.out.c (b := w.heap.size + 1) (T := 34) (vs := r.cs) (by simp) 1 _ rfl
  have r2 := HK4.out.c (b := w.heap.size + 1) (T := 34) (vs := r.cs) (by simp) 2 _ rfl
  have r3 := HK4.out.c (b := w.heap.size + 1) (T := 34) (vs := r.cs) (by simp) 3 _ rfl
  have r4 := HK4.out.c (b := w.heap.size + 1) (T := 34) (vs := r.cs) (by simp) 4 _ rfl
  go_wp2_with fail
  refine (implTabLive_val' HU5.out _ (HT.out.stay HK4.out.1) (HF.out.stay HK4.out.1) hz).mono ?_
  rintro e y6 ⟨rfl, hb⟩
  have HK5 := Lib.hid (HK4.out.stay hb)
  clear hb HK4 r0 r1 r2 r3 r4
  have HLV := Lib.hid (HL.out.symm.trans HU5.out)
  cases u5
  · go_wp2
    go_ret
    refine ⟨?_, HK5.out.1⟩
    rw [HG.out, HU3.out, HU4.out, HLV.out]
    rfl
  · go_wp2
    go_ret
    refine ⟨?_, HK5.out.1⟩
    rw [HG.out, HU3.out, HU4.out, HLV.out]
    rfl
end Go.Proofs.YtbopficnajdaoaaGreatDoor

namespace Go.Proofs.YtbopficnajdaoaaGreatDoor
open Go.RowKit
set_option linter.unusedVariables false
set_option maxRecDepth 100000

theorem chkV_no {l : List T8} {c : C5} (h : (tabOk l && isRun l c.r) = false) : chkV l c = -1 := by
  have : (tabOk l && (isRun l c.r && c.ok)) = false := by rw [← Bool.and_assoc, h]; rfl
  simp [chkV, this]
theorem chkV_bad {l : List T8} {c : C5} (h : c.ok = false) : chkV l c = -1 := by simp [chkV, h]
theorem chkV_go {l : List T8} {c : C5} (h : (tabOk l && isRun l c.r) = true) (h2 : c.ok = true) : chkV l c = if c.k = 3 then 0 else useV l (thAt l c.r) (slotAt (thAt l c.r) c.a) c.k := by
  have : (tabOk l && (isRun l c.r && c.ok)) = true := by rw [← Bool.and_assoc, h, h2]; rfl
  simp [chkV, this]
theorem ok_k {c : C5} (h : c.ok = true) : inR c.k 1 9 = true ∧ 1 ≤ c.r ∧ c.r ≤ 8 ∧ 0 ≤ c.a ∧ c.a ≤ 3 := by
  simp only [C5.ok, Bool.and_eq_true] at h
  have h2 : 1 ≤ c.r ∧ c.r ≤ 8 := by simpa [inR] using h.2.1
  have h3 : 0 ≤ c.a ∧ c.a ≤ 3 := by simpa [inR] using h.2.2.1
  exact ⟨h.1, h2.1, h2.2, h3.1, h3.2⟩
/-- A runner of a table has four rights, each is one, and to a thing that there is. -/
theorem run_slots {l : List T8} {n : Int} (h : (tabOk l && isRun l n) = true) : (thAt l n).slots.length = 4 ∧ ∀ i (hi : i < (thAt l n).slots.length), ((thAt l n).slots[i]).ok = true ∧ ((thAt l n).slots[i]).t ≤ l.length := by
  simp only [Bool.and_eq_true, isRun] at h
  obtain ⟨h1, h2, h3⟩ := h
  obtain ⟨j, hj, hn⟩ := idx_of h2
  rw [thAt_of hj hn] at h3 ⊢
  have he := tab_elem' h1 hj
  have ho := tab_okT h1 hj
  have hk : l[j].kind = 3 := by simpa using h3
  refine ⟨?_, fun i hi => ⟨okT_right ho hi, ?_⟩⟩
  · simp only [okT, Bool.and_eq_true] at ho
    have h3 := ho.2.2.2.2.1
    simp [okT3, hasS, hk] at h3
    omega
  · simp only [elemOk, Bool.and_eq_true] at he
    have := List.all_eq_true.1 he.2.2 _ (List.getElem_mem hi)
    simp [rightIn] at this
    exact this.1
theorem slotAt_of {x : T8} {a : Int} {j : Nat} (hj : j < x.slots.length) (ha : a = j) : slotAt x a = x.slots[j] := by
  simp [slotAt, ha, List.getElem?_eq_getElem hj]

/-- As proc_get, with where the rights lay ahead. -/
theorem proc_from (l : List T8) (s : Sl) (n : Int) (w0 w : World) (hw : Below w0.heap.size w0 w) (ht : HasT w0 s l) (hf : KF w0) (hz : l.length ≤ 1048576) :
    Calls Tryz.prog 47 #[.slice s.a s.n s.c, .int .i64 n] w fun e w' => ∃ (z : T8) (ss qs : Sl) (b : Bool), e = .returned (.tuple #[z.val ss qs, .bool b]) ∧ b = (tabOk l && isRun l n) ∧ (b = true → z = thAt l n ∧ HasR w0 ss z.slots) ∧ Below w.heap.size w w' := by
  cases h : (tabOk l && isRun l n)
  · exact (proc_no l s n w (ht.stay hw) (hf.stay hw) hz h).mono fun e w' ⟨e1, e2⟩ => ⟨z8, ⟨none, 0, 0⟩, ⟨none, 0, 0⟩, false, e1, rfl, fun h => (by cases h), e2⟩
  · simp only [Bool.and_eq_true, isRun] at h
    obtain ⟨h1, h2, h3⟩ := h
    obtain ⟨j, hj, hn⟩ := idx_of h2
    obtain ⟨b, o, ea, hTb⟩ := ht.ne hj
    obtain ⟨ss, qs, hr, -, hA⟩ := hTb j hj
    rw [thAt_of hj hn] at h3
    exact (proc_yes l s n j hj hn b o ea ss qs w (hA.stay hw) (ht.stay hw) (hf.stay hw) hz h1 (by simpa using h3)).mono fun e w' ⟨e1, e2⟩ => ⟨l[j], ss, qs, true, e1, rfl, fun _ => ⟨(thAt_of hj hn).symm, hr⟩, e2⟩
set_option maxHeartbeats 8000000 in
/-- The caller: there, if the call is ok, and things are a table with this runner. -/
theorem caller_get (l : List T8) (s : Sl) (c : C5) (w : World) (ht : HasT w s l) (hf : KF w) (hz : l.length ≤ 1048576) :
    Calls Tryz.prog 40 #[.slice s.a s.n s.c, .agg #[.int .i64 c.k, .int .i64 c.r, .int .i64 c.a, .int .i64 c.b, .int .i64 c.n]] w fun e w' => ∃ (z : T8) (ss qs : Sl) (b : Bool), e = .returned (.tuple #[z.val ss qs, .bool b]) ∧ b = ((tabOk l && isRun l c.r) && c.ok) ∧ (b = true → z = thAt l c.r ∧ HasR w' ss z.slots) ∧ Below w.heap.size w w' := by
  have HK0 := Lib.hid (((Kn.refl (w := w)).new 25 c.cs).new 40 #[.int .i64 0, .int .i64 0, .int .i64 0, .int .i64 0, .int .i64 0, .slice none 0 0, .slice none 0 0, .int .i64 0])
  rw [show (w.alloc (.cells c.cs 25)).heap.size = w.heap.size + 1 by simp] at HK0
  have HT := Lib.hid ht
  have HF := Lib.hid hf
  clear ht hf
  obtain ⟨v, hv⟩ : ∃ v, c.ok = v := ⟨_, rfl⟩
  have HV := Lib.hid hv
  clear hv
  cases v
  · go_enter Tryz.func40, Tryz.ntmps40
    go_wp2_with fail
    refine (implCallOk_val HV.out _).mono ?_
    rintro e y1 ⟨rfl, hb⟩
    have HK1 := Lib.hid (HK0.out.stay hb)
    clear hb HK0
    have bR := HK1.out.box (b := w.heap.size + 1) (T := 40) (vs := #[.int .i64 0, .int .i64 0, .int .i64 0, .int .i64 0, .int .i64 0, .slice none 0 0, .slice none 0 0, .int .i64 0]) (by simp)
    go_wp2_with (refine wpList_store_rowTo rfl 40 (.tmp 4) (.tmp 9) rfl rfl (w.heap.size + 1) #[.int .i64 0, .int .i64 0, .int .i64 0, .int .i64 0, .int .i64 0, .slice none 0 0, .slice none 0 0, .int .i64 0] rfl rfl 40 #[.int .i64 0, .int .i64 0, .int .i64 0, .int .i64 0, .int .i64 0, .slice none 0 0, .slice none 0 0, .int .i64 0] bR infoT8 rfl (one8' z8 ⟨none, 0, 0⟩ ⟨none, 0, 0⟩) ?_)
    refine bodyPost_ret (results_row_tmp Tryz.results40 _ _ (w.heap.size + 1) 40 (#[.int .i64 0, .int .i64 0, .int .i64 0, .int .i64 0, .int .i64 0, .slice none 0 0, .slice none 0 0, .int .i64 0]) _ rfl (setRow_box bR _) Tryz.underlying40 rfl infoT8) rfl ⟨z8, ⟨none, 0, 0⟩, ⟨none, 0, 0⟩, false, rfl, ?_, fun h => (by cases h), ?_⟩
    · rw [HV.out]; simp
    · exact HK1.out.1.trans (setRow_below (Nat.le_trans (Nat.le_succ _) (Nat.le_refl _)) _)
  · go_enter Tryz.func40, Tryz.ntmps40
    go_wp2_with fail
    refine (implCallOk_val HV.out _).mono ?_
    rintro e y1 ⟨rfl, hb⟩
    have HK1 := Lib.hid (HK0.out.stay hb)
    clear hb HK0
    have c1 := HK1.out.c (b := w.heap.size) (T := 25) (vs := c.cs) (by simp) 1 _ rfl
    go_wp2_with fail
    refine (proc_from l s c.r w _ HK1.out.1 HT.out HF.out hz).mono ?_
    rintro e y2 ⟨z, ss, qs, b1, rfl, g1, g2, hb⟩
    have HK2 := Lib.hid (HK1.out.stay hb)
    have G1 := Lib.hid g1
    have G2 := Lib.hid g2
    clear hb HK1 g1 g2 c1
    have bR := HK2.out.box (b := w.heap.size + 1) (T := 40) (vs := #[.int .i64 0, .int .i64 0, .int .i64 0, .int .i64 0, .int .i64 0, .slice none 0 0, .slice none 0 0, .int .i64 0]) (by simp)
    go_wp2_with (refine wpList_store_rowTo rfl 40 (.tmp 4) (.tmp 14) rfl rfl (w.heap.size + 1) (z.cs ss qs) rfl rfl 40 #[.int .i64 0, .int .i64 0, .int .i64 0, .int .i64 0, .int .i64 0, .slice none 0 0, .slice none 0 0, .int .i64 0] bR infoT8 rfl (one8' z ss qs) ?_)
    refine bodyPost_ret (results_row_tmp Tryz.results40 _ _ (w.heap.size + 1) 40 (z.cs ss qs) _ rfl (setRow_box bR _) Tryz.underlying40 rfl infoT8) rfl ⟨z, ss, qs, b1, rfl, ?_, ?_, ?_⟩
    · rw [HV.out, G1.out]; simp
    · intro h
      exact ⟨(G2.out h).1, (G2.out h).2.stay (HK2.out.1.trans (setRow_below (Nat.le_trans (Nat.le_succ _) (Nat.le_refl _)) _))⟩
    · exact HK2.out.1.trans (setRow_below (Nat.le_trans (Nat.le_succ _) (Nat.le_refl _)) _)

set_option maxHeartbeats 8000000 in
theorem allow_any (l : List T8) (s : Sl) (c : C5) (w : World) (ht : HasT w s l) (hf : KF w) (hz : l.length ≤ 1048576) :
    Calls Tryz.prog 46 #[.slice s.a s.n s.c, .agg #[.int .i64 c.k, .int .i64 c.r, .int .i64 c.a, .int .i64 c.b, .int .i64 c.n]] w fun e w' => e = .returned (refV (chkV l c)) ∧ Below w.heap.size w w' := by
  have HK0 := Lib.hid ((Kn.refl (w := w)).new 25 c.cs)
  have HT := Lib.hid ht
  have HF := Lib.hid hf
  clear ht hf
  go_enter Tryz.func46, Tryz.ntmps46
  go_wp2_with fail
  refine (caller_get l s c _ (HT.out.stay HK0.out.1) (HF.out.stay HK0.out.1) hz).mono ?_
  rintro e y1 ⟨z, ss, qs, b1, rfl, g1, g2, hb⟩
  have HK1' := Lib.hid (HK0.out.stay hb)
  have HK1 := Lib.hid ((HK0.out.stay hb).new 40 (z.cs ss qs))
  have GG := Lib.hid g1
  have G2 := Lib.hid g2
  clear hb HK0 g1 g2
  have lt1 := (HK1'.out.box (b := w.heap.size) (T := 25) (vs := c.cs) (by simp)).lt
  have c0 := HK1'.out.c (b := w.heap.size) (T := 25) (vs := c.cs) (by simp) 0 _ rfl
  have c1 := HK1'.out.c (b := w.heap.size) (T := 25) (vs := c.cs) (by simp) 1 _ rfl
  have c2 := HK1'.out.c (b := w.heap.size) (T := 25) (vs := c.cs) (by simp) 2 _ rfl
  have c3 := HK1'.out.c (b := w.heap.size) (T := 25) (vs := c.cs) (by simp) 3 _ rfl
  have c4 := HK1'.out.c (b := w.heap.size) (T := 25) (vs := c.cs) (by simp) 4 _ rfl
  clear HK1'
  cases b1
  · go_wp2
    go_ret
    refine ⟨?_, HK1.out.1⟩
    have hno : chkV l c = -1 := by
      cases h1 : (tabOk l && isRun l c.r) with
      | false => exact chkV_no h1
      | true => exact chkV_bad (by have h := GG.out; rw [h1] at h; simpa using h.symm)
    rw [hno, refV_1]
    rfl
  have hgg := GG.out.symm
  rw [Bool.and_eq_true] at hgg
  have G1 := Lib.hid hgg.1.symm
  have HV := Lib.hid hgg.2
  have HK2 := HK1
  have HR2 := Lib.hid ((G2.out (by simp)).2.stay ((Below.refl _ _).alloc (Nat.le_refl _) (.cells (z.cs ss qs) 40)))
  obtain ⟨y2, hy2⟩ : ∃ y2, y1.alloc (.cells (z.cs ss qs) 40) = y2 := ⟨_, rfl⟩
  rw [hy2] at HK2 HR2
  clear HK1 c0 c1 c2 c3 c4 hgg
  have HG := Lib.hid (chkV_go G1.out.symm HV.out)
  have c0 := HK2.out.c (b := w.heap.size) (T := 25) (vs := c.cs) (by simp) 0 _ rfl
  have c1 := HK2.out.c (b := w.heap.size) (T := 25) (vs := c.cs) (by simp) 1 _ rfl
  have c2 := HK2.out.c (b := w.heap.size) (T := 25) (vs := c.cs) (by simp) 2 _ rfl
  have c3 := HK2.out.c (b := w.heap.size) (T := 25) (vs := c.cs) (by simp) 3 _ rfl
  have c4 := HK2.out.c (b := w.heap.size) (T := 25) (vs := c.cs) (by simp) 4 _ rfl
  by_cases h3 : c.k = 3
  · have c0' : y2.cell? ⟨w.heap.size, 0, none⟩ = some (.int .i64 3) := by rw [c0]; simp [h3]
    have H3 := Lib.hid h3
    clear c0 h3
    go_wp2
    go_ret
    refine ⟨?_, HK2.out.1⟩
    rw [HG.out, if_pos H3.out]
    rfl
  have h3' : (c.k == 3) = false := by simpa using h3
  have H3 := Lib.hid h3
  have HE := Lib.hid (G2.out (by simp)).1
  obtain ⟨rl, rs⟩ := run_slots G1.out.symm
  rw [← HE.out] at rl rs
  obtain ⟨k9, -, -, a0, a3⟩ := ok_k HV.out
  obtain ⟨ck, cr, ca, cb, cn⟩ := c
  dsimp only at *
  obtain ⟨ja, rfl⟩ : ∃ ja : Nat, ca = ja := ⟨ca.toNat, by omega⟩
  have hja : ja < z.slots.length := by omega
  obtain ⟨rb, ro, hsa, hA⟩ := HR2.out.at hja
  obtain ⟨ro1, ro2⟩ := rs ja hja
  have HSL := Lib.hid (slotAt_of hja (show (ja : Int) = ja from rfl))
  obtain ⟨r, hr⟩ : ∃ r, z.slots[ja] = r := ⟨_, rfl⟩
  rw [hr] at hA ro1 ro2 HSL
  have hsn := HR2.out.len
  rw [rl] at hsn
  obtain ⟨sa, sn, sc⟩ := ss
  dsimp only at hsa hsn
  subst hsa hsn
  have K9 := Lib.hid k9
  have RO1 := Lib.hid ro1
  have RO2 := Lib.hid ro2
  have HU := Lib.hid (show chkV l ⟨ck, cr, (ja : Int), cb, cn⟩ = useV l z r ck by rw [HG.out, if_neg H3.out, ← HE.out, HSL.out])
  have H1 := Lib.hid (show tabOk l = true by have h := G1.out.symm; simp only [Bool.and_eq_true] at h; exact h.1)
  have FX0 : ∀ y', Kn w [(y1.heap.size, 40, z.cs ⟨some ⟨rb, ro, none⟩, 4, sc⟩ qs), (w.heap.size, 25, C5.cs ⟨ck, cr, (ja : Int), cb, cn⟩)] y' → At y' rb (ro + ja * 5) r.cs → Kn w [(y1.heap.size, 40, z.cs ⟨some ⟨rb, ro, none⟩, 4, sc⟩ qs), (w.heap.size, 25, C5.cs ⟨ck, cr, (ja : Int), cb, cn⟩)] y' ∧ y'.cell? ⟨w.heap.size, 0, none⟩ = some (.int .i64 ck) ∧ y'.cell? ⟨w.heap.size, 2, none⟩ = some (.int .i64 (ja : Int)) ∧ y'.cell? ⟨y1.heap.size, 0, none⟩ = some (.int .i64 z.kind) ∧ y'.cell? ⟨y1.heap.size, 1, none⟩ = some (.int .i64 z.sec) ∧ y'.cell? ⟨y1.heap.size, 2, none⟩ = some (.int .i64 z.vou) ∧ y'.cell? ⟨y1.heap.size, 3, none⟩ = some (.int .i64 z.vers) ∧ y'.cell? ⟨y1.heap.size, 4, none⟩ = some (.int .i64 z.num) ∧ y'.cell? ⟨y1.heap.size, 5, none⟩ = some (.slice (some ⟨rb, ro, none⟩) 4 sc) ∧ y'.cell? ⟨y1.heap.size, 6, none⟩ = some (.slice qs.a qs.n qs.c) ∧ y'.cell? ⟨y1.heap.size, 7, none⟩ = some (.int .i64 z.to) ∧ y'.cell? ⟨rb, ro + ja * 5, none⟩ = some (.int .i64 r.t) ∧ y'.cell? ⟨rb, ro + ja * 5 + 1, none⟩ = some (.int .i64 r.v) ∧ y'.cell? ⟨rb, ro + ja * 5 + 2, none⟩ = some (.bool r.r) ∧ y'.cell? ⟨rb, ro + ja * 5 + 3, none⟩ = some (.bool r.w) ∧ y'.cell? ⟨rb, ro + ja * 5 + 4, none⟩ = some (.bool r.k) := fun y' h a => ⟨h, h.c (b := w.heap.size) (T := 25) (vs := C5.cs ⟨ck, cr, (ja : Int), cb, cn⟩) (by simp) 0 _ rfl, h.c (b := w.heap.size) (T := 25) (vs := C5.cs ⟨ck, cr, (ja : Int), cb, cn⟩) (by simp) 2 _ rfl, h.c (b := y1.heap.size) (T := 40) (vs := z.cs ⟨some ⟨rb, ro, none⟩, 4, sc⟩ qs) (by simp) 0 _ rfl, h.c (b := y1.heap.size) (T := 40) (vs := z.cs ⟨some ⟨rb, ro, none⟩, 4, sc⟩ qs) (by simp) 1 _ rfl, h.c (b := y1.heap.size) (T := 40) (vs := z.cs ⟨some ⟨rb, ro, none⟩, 4, sc⟩ qs) (by simp) 2 _ rfl, h.c (b := y1.heap.size) (T := 40) (vs := z.cs ⟨some ⟨rb, ro, none⟩, 4, sc⟩ qs) (by simp) 3 _ rfl, h.c (b := y1.heap.size) (T := 40) (vs := z.cs ⟨some ⟨rb, ro, none⟩, 4, sc⟩ qs) (by simp) 4 _ rfl, h.c (b := y1.heap.size) (T := 40) (vs := z.cs ⟨some ⟨rb, ro, none⟩, 4, sc⟩ qs) (by simp) 5 _ rfl, h.c (b := y1.heap.size) (T := 40) (vs := z.cs ⟨some ⟨rb, ro, none⟩, 4, sc⟩ qs) (by simp) 6 _ rfl, h.c (b := y1.heap.size) (T := 40) (vs := z.cs ⟨some ⟨rb, ro, none⟩, 4, sc⟩ qs) (by simp) 7 _ rfl, a 0 _ rfl, a 1 _ rfl, a 2 _ rfl, a 3 _ rfl, a 4 _ rfl⟩
  have FX := Lib.hid FX0
  have hB0 := HK2.out
  have hB := HK2.out.drew
  have tB := Lib.hid (HT.out.stay hB.1)
  have fB := Lib.hid (HF.out.stay hB.1)
  have aB0 := hA
  have aB := hA.drew
  have hj4 : (ja : Int) < 4 := by omega
  have wj : IntKind.i64.wrap (ja : Int) = (ja : Int) := IntWalk.i64_in _ (by omega)
  clear FX0 HG HSL HE HR2 hr hA rs rl ro1 ro2 k9 h3 G1 G2 HK2
  go_upto_region 6 with fail
  clear c0 c1 c2 c3 c4
  go_region_held3 (fun y' => Kn w [(y1.heap.size, 40, z.cs ⟨some ⟨rb, ro, none⟩, 4, sc⟩ qs), (w.heap.size, 25, C5.cs ⟨ck, cr, (ja : Int), cb, cn⟩)] y' ∧ y'.cell? ⟨w.heap.size, 0, none⟩ = some (.int .i64 ck) ∧ y'.cell? ⟨w.heap.size, 2, none⟩ = some (.int .i64 (ja : Int)) ∧ y'.cell? ⟨y1.heap.size, 0, none⟩ = some (.int .i64 z.kind) ∧ y'.cell? ⟨y1.heap.size, 1, none⟩ = some (.int .i64 z.sec) ∧ y'.cell? ⟨y1.heap.size, 2, none⟩ = some (.int .i64 z.vou) ∧ y'.cell? ⟨y1.heap.size, 3, none⟩ = some (.int .i64 z.vers) ∧ y'.cell? ⟨y1.heap.size, 4, none⟩ = some (.int .i64 z.num) ∧ y'.cell? ⟨y1.heap.size, 5, none⟩ = some (.slice (some ⟨rb, ro, none⟩) 4 sc) ∧ y'.cell? ⟨y1.heap.size, 6, none⟩ = some (.slice qs.a qs.n qs.c) ∧ y'.cell? ⟨y1.heap.size, 7, none⟩ = some (.int .i64 z.to) ∧ y'.cell? ⟨rb, ro + ja * 5, none⟩ = some (.int .i64 r.t) ∧ y'.cell? ⟨rb, ro + ja * 5 + 1, none⟩ = some (.int .i64 r.v) ∧ y'.cell? ⟨rb, ro + ja * 5 + 2, none⟩ = some (.bool r.r) ∧ y'.cell? ⟨rb, ro + ja * 5 + 3, none⟩ = some (.bool r.w) ∧ y'.cell? ⟨rb, ro + ja * 5 + 4, none⟩ = some (.bool r.k))
    (first | with_reducible exact FX.out _ hB aB | with_reducible exact FX.out _ hB0 aB0)
    (first
      | (go_at_call 75; refine (reqOf_any ck K9.out H3.out _).mono ?_; rintro e y5 ⟨b, rfl, hq, hb⟩; have HQ := Lib.hid hq; have hB := hB.stay hb; have aB := aB.stay hb; have tB := Lib.hid (tB.out.stay hb); have fB := Lib.hid (fB.out.stay hb); clear hq hb)
      | (go_at_call 74; refine (allowUse_any l s z ⟨some ⟨rb, ro, none⟩, 4, sc⟩ qs r ck b _ tB.out fB.out HQ.out hz H1.out RO1.out RO2.out).mono ?_; rintro e y6 ⟨rfl, hb⟩; have hB := hB.stay hb; have aB := aB.stay hb; clear hb))
  all_goals
    go_wp2
    go_ret
    exact ⟨by rw [HU.out]; rfl, hB.1⟩

theorem allow_nil {l : List T8} {s : Sl} {c : C5} (h : chkV l c = 0) (w : World) (ht : HasT w s l) (hf : KF w) (hz : l.length ≤ 1048576) :
    Calls Tryz.prog 46 #[.slice s.a s.n s.c, .agg #[.int .i64 c.k, .int .i64 c.r, .int .i64 c.a, .int .i64 c.b, .int .i64 c.n]] w fun e w' => e = .returned .nilIface ∧ Below w.heap.size w w' :=
  (allow_any l s c w ht hf hz).mono fun e w' h2 => ⟨by rw [h2.1, h, refV_0], h2.2⟩
theorem allow_ref {l : List T8} {s : Sl} {c : C5} {v : Int} (h : chkV l c = v) (hv : v ≠ 0) (w : World) (ht : HasT w s l) (hf : KF w) (hz : l.length ≤ 1048576) :
    Calls Tryz.prog 46 #[.slice s.a s.n s.c, .agg #[.int .i64 c.k, .int .i64 c.r, .int .i64 c.a, .int .i64 c.b, .int .i64 c.n]] w fun e w' => e = .returned (.iface 59 (.agg #[.int .i64 v])) ∧ Below w.heap.size w w' :=
  (allow_any l s c w ht hf hz).mono fun e w' h2 => ⟨by rw [h2.1, h, refV, if_neg hv], h2.2⟩
theorem as_got (n : Int) (t : Nat) (w : World) (hg : ET w) (ht : Box w t 59 #[.int .i64 0]) :
    Calls Tryz.prog 45 #[.iface 59 (.agg #[.int .i64 n]), .iface 64 (.pointer (some ⟨t, 0, none⟩))] w fun e w' => e = .returned (.bool true) ∧ Box w' t 59 #[.int .i64 n] ∧ Grew t w w' :=
  (as_hit n t w hg ht).mono fun e w' h => by
    obtain ⟨h1, rfl⟩ := h
    refine ⟨h1, ?_, ((((Grew.refl t w).alloc _).alloc _).alloc _).alloc _ |>.put (.inl rfl) _⟩
    have := ((((ht.past (.cells #[.pointer (some ⟨t, 0, none⟩)] 64)).past (.cells #[hnd 64, .pointer (some ⟨w.heap.size, 0, none⟩), .int .u64 150] 98)).past (.cells #[hnd 64, .pointer (some ⟨w.heap.size, 0, none⟩), .int .u64 150] 98)).past (.cells #[.int .i64 n] 59)).put 0 (.int .i64 n)
    simpa using this

set_option maxHeartbeats 4000000 in
theorem implCheck_any (l : List T8) (s : Sl) (c : C5) (w : World) (ht : HasT w s l) (hf : KF w) (he : ET w) (hz : l.length ≤ 1048576) :
    Calls Tryz.prog 25 #[.slice s.a s.n s.c, .agg #[.int .i64 c.k, .int .i64 c.r, .int .i64 c.a, .int .i64 c.b, .int .i64 c.n]] w fun e w' => e = .returned (.int .i64 (chkV l c)) ∧ Below w.heap.size w w' := by
  have hk := (((Kn.refl (w := w)).new 25 c.cs).new 59 #[.int .i64 0])
  rw [show (w.alloc (.cells c.cs 25)).heap.size = w.heap.size + 1 by simp] at hk
  have HK0 := Lib.hid hk
  have HT := Lib.hid (ht.stay hk.1)
  have HF := Lib.hid (hf.stay hk.1)
  have HE := Lib.hid (he.stay hk.1)
  clear ht hf he hk
  obtain ⟨v, hv⟩ : ∃ v, chkV l c = v := ⟨_, rfl⟩
  have HV := Lib.hid hv
  rw [hv]
  clear hv
  by_cases h0 : v = 0
  · subst h0
    go_enter Tryz.func25, Tryz.ntmps25
    go_wp2_with fail
    refine (allow_nil HV.out _ HT.out HF.out hz).mono ?_
    rintro e y1 ⟨rfl, hb⟩
    have HK1 := Lib.hid (HK0.out.stay hb)
    clear hb HK0
    go_wp2_with fail
    refine (as_nil _ _).mono ?_
    rintro e y2 ⟨rfl, rfl⟩
    go_wp2
    go_ret
    exact ⟨rfl, HK1.out.1⟩
  · have H0 := Lib.hid h0
    clear h0
    go_enter Tryz.func25, Tryz.ntmps25
    go_wp2_with fail
    refine (allow_ref HV.out H0.out _ HT.out HF.out hz).mono ?_
    rintro e y1 ⟨rfl, hb⟩
    have HK1 := Lib.hid (HK0.out.stay hb)
    have HE1 := Lib.hid (HE.out.stay hb)
    clear hb HK0
    go_wp2_with fail
    refine (as_got v (w.heap.size + 1) _ HE1.out (HK1.out.box (b := w.heap.size + 1) (T := 59) (vs := #[.int .i64 0]) (by simp))).mono ?_
    rintro e y2 ⟨rfl, bx, g⟩
    have d0 := bx.cell 0 _ rfl
    have HB := Lib.hid (HK1.out.1.trans (g.below (by omega) HK1.out.1.size))
    clear bx g
    go_wp2
    go_ret
    exact ⟨rfl, HB.out⟩
theorem implCheck_val {l : List T8} {s : Sl} {c : C5} {v : Int} (h : chkV l c = v) (w : World) (ht : HasT w s l) (hf : KF w) (he : ET w) (hz : l.length ≤ 1048576) :
    Calls Tryz.prog 25 #[.slice s.a s.n s.c, .agg #[.int .i64 c.k, .int .i64 c.r, .int .i64 c.a, .int .i64 c.b, .int .i64 c.n]] w fun e w' => e = .returned (.int .i64 v) ∧ Below w.heap.size w w' := by
  subst h; exact implCheck_any l s c w ht hf he hz
end Go.Proofs.YtbopficnajdaoaaGreatDoor

namespace Go.Proofs.YtbopficnajdaoaaGreatDoor
open Go.RowKit
set_option linter.unusedVariables false
set_option maxRecDepth 100000

set_option maxHeartbeats 2000000 in
theorem l11Kind_any (k d : Int) (h : inR k 1 9 = true) (h3 : k ≠ 3) (w : World) :
    Calls Tryz.prog 58 #[.int .i64 k, .int .i64 d] w fun e w' => e = .returned (.bool (kindOk k d)) ∧ w' = w := by
  rcases eight h h3 with rfl | rfl | rfl | rfl | rfl | rfl | rfl | rfl
  · by_cases h1 : d = 1
    · subst h1
      go_enter Tryz.func58, Tryz.ntmps58
      go_wp2
      go_ret
      exact ⟨rfl, rfl⟩
    have g1 : (d == 1) = false := by simpa using h1
    have HV := Lib.hid (show kindOk 1 d = false by simp [kindOk, inL, kindsOf, h1])
    rw [HV.out]
    go_enter Tryz.func58, Tryz.ntmps58
    go_wp2
    go_ret
    exact ⟨rfl, rfl⟩
  · by_cases h1 : d = 1
    · subst h1
      go_enter Tryz.func58, Tryz.ntmps58
      go_wp2
      go_ret
      exact ⟨rfl, rfl⟩
    have g1 : (d == 1) = false := by simpa using h1
    have HV := Lib.hid (show kindOk 2 d = false by simp [kindOk, inL, kindsOf, h1])
    rw [HV.out]
    go_enter Tryz.func58, Tryz.ntmps58
    go_wp2
    go_ret
    exact ⟨rfl, rfl⟩
  · by_cases h2 : d = 2
    · subst h2
      go_enter Tryz.func58, Tryz.ntmps58
      go_wp2
      go_ret
      exact ⟨rfl, rfl⟩
    have g2 : (d == 2) = false := by simpa using h2
    have HV := Lib.hid (show kindOk 4 d = false by simp [kindOk, inL, kindsOf, h2])
    rw [HV.out]
    go_enter Tryz.func58, Tryz.ntmps58
    go_wp2
    go_ret
    exact ⟨rfl, rfl⟩
  · by_cases h2 : d = 2
    · subst h2
      go_enter Tryz.func58, Tryz.ntmps58
      go_wp2
      go_ret
      exact ⟨rfl, rfl⟩
    have g2 : (d == 2) = false := by simpa using h2
    have HV := Lib.hid (show kindOk 5 d = false by simp [kindOk, inL, kindsOf, h2])
    rw [HV.out]
    go_enter Tryz.func58, Tryz.ntmps58
    go_wp2
    go_ret
    exact ⟨rfl, rfl⟩
  · by_cases h4 : d = 4
    · subst h4
      go_enter Tryz.func58, Tryz.ntmps58
      go_wp2
      go_ret
      exact ⟨rfl, rfl⟩
    have g4 : (d == 4) = false := by simpa using h4
    have HV := Lib.hid (show kindOk 6 d = false by simp [kindOk, inL, kindsOf, h4])
    rw [HV.out]
    go_enter Tryz.func58, Tryz.ntmps58
    go_wp2
    go_ret
    exact ⟨rfl, rfl⟩
  · by_cases h4 : d = 4
    · subst h4
      go_enter Tryz.func58, Tryz.ntmps58
      go_wp2
      go_ret
      exact ⟨rfl, rfl⟩
    have g4 : (d == 4) = false := by simpa using h4
    have HV := Lib.hid (show kindOk 7 d = false by simp [kindOk, inL, kindsOf, h4])
    rw [HV.out]
    go_enter Tryz.func58, Tryz.ntmps58
    go_wp2
    go_ret
    exact ⟨rfl, rfl⟩
  · by_cases h1 : d = 1
    · subst h1
      go_enter Tryz.func58, Tryz.ntmps58
      go_wp2
      go_ret
      exact ⟨rfl, rfl⟩
    have g1 : (d == 1) = false := by simpa using h1
    by_cases h2 : d = 2
    · subst h2
      go_enter Tryz.func58, Tryz.ntmps58
      go_wp2
      go_ret
      exact ⟨rfl, rfl⟩
    have g2 : (d == 2) = false := by simpa using h2
    by_cases h4 : d = 4
    · subst h4
      go_enter Tryz.func58, Tryz.ntmps58
      go_wp2
      go_ret
      exact ⟨rfl, rfl⟩
    have g4 : (d == 4) = false := by simpa using h4
    have HV := Lib.hid (show kindOk 8 d = false by simp [kindOk, inL, kindsOf, h1, h2, h4])
    rw [HV.out]
    go_enter Tryz.func58, Tryz.ntmps58
    go_wp2
    go_ret
    exact ⟨rfl, rfl⟩
  · by_cases h5 : d = 5
    · subst h5
      go_enter Tryz.func58, Tryz.ntmps58
      go_wp2
      go_ret
      exact ⟨rfl, rfl⟩
    have g5 : (d == 5) = false := by simpa using h5
    have HV := Lib.hid (show kindOk 9 d = false by simp [kindOk, inL, kindsOf, h5])
    rw [HV.out]
    go_enter Tryz.func58, Tryz.ntmps58
    go_wp2
    go_ret
    exact ⟨rfl, rfl⟩

theorem l11Kind_val {k d : Int} {b : Bool} (hv : kindOk k d = b) (h : inR k 1 9 = true) (h3 : k ≠ 3) (w : World) :
    Calls Tryz.prog 58 #[.int .i64 k, .int .i64 d] w fun e w' => e = .returned (.bool b) ∧ w' = w := by
  subst hv; exact l11Kind_any k d h h3 w

set_option maxHeartbeats 2000000 in
theorem l11Needs_any (k : Int) (h : inR k 1 9 = true) (h3 : k ≠ 3) (w : World) :
    Calls Tryz.prog 84 #[.int .i64 k] w fun e w' => e = .returned (.slice (some ⟨w.heap.size, 0, none⟩) 4 4) ∧ w' = w.alloc (.cells #[.bool (needR k), .bool (needW k), .bool (needR k), .bool (needW k)] 4) := by
  rcases eight h h3 with rfl | rfl | rfl | rfl | rfl | rfl | rfl | rfl
  all_goals
    go_enter Tryz.func84, Tryz.ntmps84
    go_wp2
    go_ret
    exact ⟨rfl, rfl⟩
theorem l11Needs_val {k : Int} {nr nw : Bool} (hr : needR k = nr) (hw : needW k = nw) (h : inR k 1 9 = true) (h3 : k ≠ 3) (w : World) :
    Calls Tryz.prog 84 #[.int .i64 k] w fun e w' => e = .returned (.slice (some ⟨w.heap.size, 0, none⟩) 4 4) ∧ w' = w.alloc (.cells #[.bool nr, .bool nw, .bool nr, .bool nw] 4) := by
  subst hr hw; exact l11Needs_any k h h3 w
theorem l3Live_val {l : List T8} {s : Sl} {r : R5} {v : Bool} (h : liveB l r = v) (w : World) (ht : HasT w s l) (hz : l.length ≤ 1048576) :
    Calls Tryz.prog 62 #[.slice s.a s.n s.c, rgt r.t r.v r.r r.w r.k] w fun e w' => e = .returned (.bool v) ∧ Below w.heap.size w w' := by
  subst h; exact l3Live_any l s r w ht hz
theorem l11Sees_val {l : List T8} {s : Sl} {r n : Int} {v : Bool} (h : seesT (thAt l r) (thAt l n) = v) (w : World) (ht : HasT w s l) (hz : l.length ≤ 1048576) (h1 : tabOk l = true) (hr : inR r 1 l.length = true) (hn : inR n 1 l.length = true) :
    Calls Tryz.prog 64 #[.slice s.a s.n s.c, .int .i64 r, .int .i64 n] w fun e w' => e = .returned (.bool v) ∧ Below w.heap.size w w' := by
  subst h; exact l11Sees_any l s r n w ht hz h1 hr hn
theorem l11Touches_val {l : List T8} {s : Sl} {r n : Int} {v : Bool} (h : touT (thAt l r) (thAt l n) = v) (w : World) (ht : HasT w s l) (hz : l.length ≤ 1048576) (h1 : tabOk l = true) (hr : inR r 1 l.length = true) (hn : inR n 1 l.length = true) :
    Calls Tryz.prog 85 #[.slice s.a s.n s.c, .int .i64 r, .int .i64 n] w fun e w' => e = .returned (.bool v) ∧ Below w.heap.size w w' := by
  subst h; exact l11Touches_any l s r n w ht hz h1 hr hn
theorem l11Needs_box {k : Int} {nr nw : Bool} (hr : needR k = nr) (hw : needW k = nw) (h : inR k 1 9 = true) (h3 : k ≠ 3) (w : World) :
    Calls Tryz.prog 84 #[.int .i64 k] w fun e w' => ∃ nb : Nat, e = .returned (.slice (some ⟨nb, 0, none⟩) 4 4) ∧ Box w' nb 4 #[.bool nr, .bool nw, .bool nr, .bool nw] ∧ Below w.heap.size w w' :=
  (l11Needs_val hr hw h h3 w).mono fun e w' ⟨h1, h2⟩ => ⟨w.heap.size, h1, by rw [h2]; exact Box.fresh _ _ _, by rw [h2]; exact (Below.refl _ _).alloc (Nat.le_refl _) _⟩
theorem Kn.also {w x : World} {L : List Blk3} (h : Kn w L x) {b : Nat} {T : TypeId} {vs : Array Value} (hb : Box x b T vs) : Kn w ((b, T, vs) :: L) x :=
  ⟨h.1, fun t ht => by rcases List.mem_cons.1 ht with rfl | ht; exact hb; exact h.2 t ht⟩
/-- A call needs to read or to write. -/
theorem need_one {k : Int} (h : needR k = false) : needW k = true := by
  unfold needR at h
  unfold needW
  cases h1 : (k == 1) <;> cases h4 : (k == 4) <;> simp_all

set_option maxHeartbeats 8000000 in
theorem l11Check_copy (l : List T8) (s : Sl) (r a b n : Int) (w : World) :
    Calls Tryz.prog 59 #[.slice s.a s.n s.c, .agg #[.int .i64 3, .int .i64 r, .int .i64 a, .int .i64 b, .int .i64 n]] w fun e w' => e = .returned (.int .i64 0) ∧ Below w.heap.size w w' := by
  go_enter Tryz.func59, Tryz.ntmps59
  go_wp2
  go_ret
  exact ⟨rfl, (Below.refl _ _).alloc (Nat.le_refl _) _⟩

set_option maxHeartbeats 16000000 in
theorem l11Check_at (l : List T8) (b o c : Nat) (ck : Int) (jr ja : Nat) (cb cn : Int) (hjr : jr < l.length) (rb ro sc : Nat) (qs : Sl) (rt rv : Int) (rr rw_ rk : Bool) (w : World)
    (ht : HasT w ⟨some ⟨b, o, none⟩, l.length, c⟩ l) (hz : l.length ≤ 8) (h1 : tabOk l = true) (k9 : inR ck 1 9 = true) (k3 : ck ≠ 3) (hja : ja < 4)
    (hA : At w b (o + jr * 8) (l[jr].cs ⟨some ⟨rb, ro, none⟩, 4, sc⟩ qs)) (hB : At w rb (ro + ja * 5) (rgtC rt rv rr rw_ rk)) (t0 : 0 ≤ rt) (tl : rt ≤ l.length) :
    Calls Tryz.prog 59 #[.slice (some ⟨b, o, none⟩) l.length c, .agg #[.int .i64 ck, .int .i64 ((jr : Int) + 1), .int .i64 (ja : Int), .int .i64 cb, .int .i64 cn]] w fun e w' => e = .returned (.int .i64 (useV l l[jr] ⟨rt, rv, rr, rw_, rk⟩ ck)) ∧ Below w.heap.size w w' := by
  have HK0 := Lib.hid ((Kn.refl (w := w)).new 25 (C5.cs ⟨ck, (jr : Int) + 1, (ja : Int), cb, cn⟩))
  have HT := Lib.hid ht
  have H1 := Lib.hid h1
  have K9 := Lib.hid k9
  have K3 := Lib.hid k3
  have k3' : (ck == 3) = false := by simpa using k3
  obtain ⟨u1, e1⟩ : ∃ u, kindOk ck (thAt l rt).kind = u := ⟨_, rfl⟩
  obtain ⟨u3, e3⟩ : ∃ u, seesT l[jr] (thAt l rt) = u := ⟨_, rfl⟩
  obtain ⟨u4, e4⟩ : ∃ u, touT l[jr] (thAt l rt) = u := ⟨_, rfl⟩
  obtain ⟨u5, e5⟩ : ∃ u, liveB l ⟨rt, rv, rr, rw_, rk⟩ = u := ⟨_, rfl⟩
  obtain ⟨nr, en⟩ : ∃ u, needR ck = u := ⟨_, rfl⟩
  obtain ⟨nw, ew⟩ : ∃ u, needW ck = u := ⟨_, rfl⟩
  have HUV := Lib.hid (show useV l l[jr] ⟨rt, rv, rr, rw_, rk⟩ ck = (if (rt == 0 || (!u1 || ((nr && !rr) || (nw && !rw_)))) then -1 else if ((nr && !u3) || (nw && !u4)) then -2 else if (u3 && !u5) then -3 else 0) by
    simp only [useV, e1, e3, e4, e5, en, ew])
  have E1 := Lib.hid e1
  have E3 := Lib.hid (show seesT (thAt l ((jr : Int) + 1)) (thAt l rt) = u3 by rw [thAt_of hjr (show (jr : Int) + 1 - 1 = jr by omega)]; exact e3)
  have E4 := Lib.hid (show touT (thAt l ((jr : Int) + 1)) (thAt l rt) = u4 by rw [thAt_of hjr (show (jr : Int) + 1 - 1 = jr by omega)]; exact e4)
  have E5 := Lib.hid e5
  have EN := Lib.hid en
  have EW := Lib.hid ew
  have HIR := Lib.hid (show inR ((jr : Int) + 1) 1 l.length = true by simp [inR]; omega)
  have ENW := Lib.hid (show nr = false → nw = true from fun h => by rw [← ew]; exact need_one (en.trans h))
  clear e1 e3 e4 e5 en ew h1 k9 k3 ht
  have hAl := hA.stay ((Below.refl _ _).alloc (Nat.le_refl _) (.cells (C5.cs ⟨ck, (jr : Int) + 1, (ja : Int), cb, cn⟩) 25))
  have hBl := hB.stay ((Below.refl _ _).alloc (Nat.le_refl _) (.cells (C5.cs ⟨ck, (jr : Int) + 1, (ja : Int), cb, cn⟩) 25))
  obtain ⟨W1, hW1⟩ : ∃ W1, w.alloc (.cells (C5.cs ⟨ck, (jr : Int) + 1, (ja : Int), cb, cn⟩) 25) = W1 := ⟨_, rfl⟩
  rw [hW1] at hAl hBl HK0
  have f5 : W1.cell? ⟨b, o + jr * 8 + 5, none⟩ = some (.slice (some ⟨rb, ro, none⟩) 4 sc) := hAl 5 _ rfl
  have g0 : W1.cell? ⟨rb, ro + ja * 5, none⟩ = some (.int .i64 rt) := hBl 0 _ rfl
  have g1 : W1.cell? ⟨rb, ro + ja * 5 + 1, none⟩ = some (.int .i64 rv) := hBl 1 _ rfl
  have g2 : W1.cell? ⟨rb, ro + ja * 5 + 2, none⟩ = some (.bool rr) := hBl 2 _ rfl
  have g3 : W1.cell? ⟨rb, ro + ja * 5 + 3, none⟩ = some (.bool rw_) := hBl 3 _ rfl
  have g4 : W1.cell? ⟨rb, ro + ja * 5 + 4, none⟩ = some (.bool rk) := hBl 4 _ rfl
  have hbl1 := cell_lt f5
  have hbl2 := cell_lt g0
  have c0 := HK0.out.c (b := w.heap.size) (T := 25) (vs := C5.cs ⟨ck, (jr : Int) + 1, (ja : Int), cb, cn⟩) (by simp) 0 _ rfl
  have c1 := HK0.out.c (b := w.heap.size) (T := 25) (vs := C5.cs ⟨ck, (jr : Int) + 1, (ja : Int), cb, cn⟩) (by simp) 1 _ rfl
  have c2 := HK0.out.c (b := w.heap.size) (T := 25) (vs := C5.cs ⟨ck, (jr : Int) + 1, (ja : Int), cb, cn⟩) (by simp) 2 _ rfl
  have c3 := HK0.out.c (b := w.heap.size) (T := 25) (vs := C5.cs ⟨ck, (jr : Int) + 1, (ja : Int), cb, cn⟩) (by simp) 3 _ rfl
  have c4 := HK0.out.c (b := w.heap.size) (T := 25) (vs := C5.cs ⟨ck, (jr : Int) + 1, (ja : Int), cb, cn⟩) (by simp) 4 _ rfl
  have lt1 := (HK0.out.box (b := w.heap.size) (T := 25) (vs := C5.cs ⟨ck, (jr : Int) + 1, (ja : Int), cb, cn⟩) (by simp)).lt
  have wr : wrap64 ((jr : Int) + 1 - 1) = (jr : Int) := by unfold wrap64; omega
  have wr2 : IntKind.i64.wrap (jr : Int) = (jr : Int) := IntWalk.i64_in _ (by omega)
  have wa : IntKind.i64.wrap (ja : Int) = (ja : Int) := IntWalk.i64_in _ (by omega)
  have hjr' : (jr : Int) < (l.length : Int) := by omega
  have hja' : (ja : Int) < 4 := by omega
  clear hA hB hAl hBl
  go_enter Tryz.func59, Tryz.ntmps59
  go_upto_region 3 with fail
  go_region
  have HK1 := Lib.hid ((HK0.out.new 34 (rgtC rt rv rr rw_ rk)).drew)
  clear f5 g0 g1 g2 g3 g4
  go_wp2_with fail
  refine (l11Needs_box EN.out EW.out K9.out K3.out _).mono ?_
  rintro e y2 ⟨nb, rfl, bn, hb⟩
  have HK2 := Lib.hid ((HK1.out.stay hb).also bn)
  clear hb bn HK1 c0 c1 c2 c3 c4 hW1
  by_cases h0 : rt = 0
  · subst h0
    have c0 := HK2.out.c (b := w.heap.size) (T := 25) (vs := C5.cs ⟨ck, (jr : Int) + 1, (ja : Int), cb, cn⟩) (by simp) 0 _ rfl
    have c1 := HK2.out.c (b := w.heap.size) (T := 25) (vs := C5.cs ⟨ck, (jr : Int) + 1, (ja : Int), cb, cn⟩) (by simp) 1 _ rfl
    have r0 := HK2.out.c (b := W1.heap.size) (T := 34) (vs := rgtC 0 rv rr rw_ rk) (by simp) 0 _ rfl
    have r1 := HK2.out.c (b := W1.heap.size) (T := 34) (vs := rgtC 0 rv rr rw_ rk) (by simp) 1 _ rfl
    have r2 := HK2.out.c (b := W1.heap.size) (T := 34) (vs := rgtC 0 rv rr rw_ rk) (by simp) 2 _ rfl
    have r3 := HK2.out.c (b := W1.heap.size) (T := 34) (vs := rgtC 0 rv rr rw_ rk) (by simp) 3 _ rfl
    have r4 := HK2.out.c (b := W1.heap.size) (T := 34) (vs := rgtC 0 rv rr rw_ rk) (by simp) 4 _ rfl
    have n0 := HK2.out.c (b := nb) (T := 4) (vs := #[.bool nr, .bool nw, .bool nr, .bool nw]) (by simp) 0 _ rfl
    have n1 := HK2.out.c (b := nb) (T := 4) (vs := #[.bool nr, .bool nw, .bool nr, .bool nw]) (by simp) 1 _ rfl
    have n2 := HK2.out.c (b := nb) (T := 4) (vs := #[.bool nr, .bool nw, .bool nr, .bool nw]) (by simp) 2 _ rfl
    have n3 := HK2.out.c (b := nb) (T := 4) (vs := #[.bool nr, .bool nw, .bool nr, .bool nw]) (by simp) 3 _ rfl
    go_upto_region 5 with fail
    go_quiet ((go_at_call 58; refine Calls.quiet_of_same (l11Kind_val E1.out K9.out K3.out _)))
    go_wp2
    go_ret
    refine ⟨?_, (HK2.out.drewN _).1⟩
    rw [HUV.out]
    rfl
  obtain ⟨jn, hjn⟩ : ∃ j : Nat, rt - 1 = j := ⟨(rt - 1).toNat, by omega⟩
  have hjn2 : jn < l.length := by omega
  have hjn' : (jn : Int) < (l.length : Int) := by omega
  obtain rfl : rt = (jn : Int) + 1 := by omega
  have t0' : (((jn : Int) + 1) == 0) = false := by simp; omega
  have wn : wrap64 ((jn : Int) + 1 - 1) = (jn : Int) := by unfold wrap64; omega
  have wn2 : IntKind.i64.wrap (jn : Int) = (jn : Int) := IntWalk.i64_in _ (by omega)
  have hin1 : ¬ (jn : Int) + 1 = 0 := by omega
  have HIN := Lib.hid (show inR ((jn : Int) + 1) 1 l.length = true by simp [inR]; omega)
  rw [thAt_of hjn2 (show (jn : Int) + 1 - 1 = jn by omega)] at E1
  have T2 := Lib.hid (HT.out.stay HK2.out.1)
  have d0 : y2.cell? ⟨b, o + jn * 8, none⟩ = some (.int .i64 l[jn].kind) := by
    obtain ⟨b', o', e, h⟩ := T2.out.ne hjn2
    simp only [Option.some.injEq, Addr.mk.injEq] at e
    obtain ⟨rfl, rfl, -⟩ := e
    obtain ⟨ss, qs, -, -, hA⟩ := h jn hjn2
    exact hA 0 _ rfl
  generalize l[jn].kind = kd at *
  clear hjn h0
  have hz6 : l.length ≤ 1048576 := by omega
  have c0 := HK2.out.c (b := w.heap.size) (T := 25) (vs := C5.cs ⟨ck, (jr : Int) + 1, (ja : Int), cb, cn⟩) (by simp) 0 _ rfl
  have c1 := HK2.out.c (b := w.heap.size) (T := 25) (vs := C5.cs ⟨ck, (jr : Int) + 1, (ja : Int), cb, cn⟩) (by simp) 1 _ rfl
  have r0 := HK2.out.c (b := W1.heap.size) (T := 34) (vs := rgtC ((jn : Int) + 1) rv rr rw_ rk) (by simp) 0 _ rfl
  have r1 := HK2.out.c (b := W1.heap.size) (T := 34) (vs := rgtC ((jn : Int) + 1) rv rr rw_ rk) (by simp) 1 _ rfl
  have r2 := HK2.out.c (b := W1.heap.size) (T := 34) (vs := rgtC ((jn : Int) + 1) rv rr rw_ rk) (by simp) 2 _ rfl
  have r3 := HK2.out.c (b := W1.heap.size) (T := 34) (vs := rgtC ((jn : Int) + 1) rv rr rw_ rk) (by simp) 3 _ rfl
  have r4 := HK2.out.c (b := W1.heap.size) (T := 34) (vs := rgtC ((jn : Int) + 1) rv rr rw_ rk) (by simp) 4 _ rfl
  have n0 := HK2.out.c (b := nb) (T := 4) (vs := #[.bool nr, .bool nw, .bool nr, .bool nw]) (by simp) 0 _ rfl
  have n1 := HK2.out.c (b := nb) (T := 4) (vs := #[.bool nr, .bool nw, .bool nr, .bool nw]) (by simp) 1 _ rfl
  have n2 := HK2.out.c (b := nb) (T := 4) (vs := #[.bool nr, .bool nw, .bool nr, .bool nw]) (by simp) 2 _ rfl
  have n3 := HK2.out.c (b := nb) (T := 4) (vs := #[.bool nr, .bool nw, .bool nr, .bool nw]) (by simp) 3 _ rfl
  cases u1
  · go_upto_region 5 with fail
    go_quiet ((go_at_call 58; refine Calls.quiet_of_same (l11Kind_val E1.out K9.out K3.out _)))
    go_wp2
    go_ret
    refine ⟨?_, (HK2.out.drewN _).1⟩
    rw [HUV.out, t0']
    rfl
  cases nr
  · obtain rfl := ENW.out rfl
    cases rw_
    · go_upto_region 5 with fail
      go_quiet ((go_at_call 58; refine Calls.quiet_of_same (l11Kind_val E1.out K9.out K3.out _)))
      go_wp2
      go_ret
      refine ⟨?_, (HK2.out.drewN _).1⟩
      rw [HUV.out, t0']
      rfl
    go_upto_region 5 with fail
    go_quiet ((go_at_call 58; refine Calls.quiet_of_same (l11Kind_val E1.out K9.out K3.out _)))
    have HKq := Lib.hid (HK2.out.drewN nq)
    obtain ⟨Y, hY⟩ : ∃ Y, y2.drewN nq = Y := ⟨_, rfl⟩
    rw [hY] at HKq
    clear c0 c1 r0 r1 r2 r3 r4 n0 n1 n2 n3 d0 T2
    rw [hY]
    clear hY HK2
    have c1 := HKq.out.c (b := w.heap.size) (T := 25) (vs := C5.cs ⟨ck, (jr : Int) + 1, (ja : Int), cb, cn⟩) (by simp) 1 _ rfl
    have r0 := HKq.out.c (b := W1.heap.size) (T := 34) (vs := rgtC ((jn : Int) + 1) rv rr true rk) (by simp) 0 _ rfl
    go_wp2_with fail
    refine (l11Sees_val (s := ⟨some ⟨b, o, none⟩, l.length, c⟩) E3.out _ (HT.out.stay HKq.out.1) hz6 H1.out HIR.out HIN.out).mono ?_
    rintro e y3 ⟨rfl, hb⟩
    have HK3 := Lib.hid (HKq.out.stay hb)
    clear hb HKq c1 r0
    have c1 := HK3.out.c (b := w.heap.size) (T := 25) (vs := C5.cs ⟨ck, (jr : Int) + 1, (ja : Int), cb, cn⟩) (by simp) 1 _ rfl
    have r0 := HK3.out.c (b := W1.heap.size) (T := 34) (vs := rgtC ((jn : Int) + 1) rv rr true rk) (by simp) 0 _ rfl
    have n2 := HK3.out.c (b := nb) (T := 4) (vs := #[.bool false, .bool true, .bool false, .bool true]) (by simp) 2 _ rfl
    have n3 := HK3.out.c (b := nb) (T := 4) (vs := #[.bool false, .bool true, .bool false, .bool true]) (by simp) 3 _ rfl
    go_wp2_with fail
    refine (l11Touches_val (s := ⟨some ⟨b, o, none⟩, l.length, c⟩) E4.out _ (HT.out.stay HK3.out.1) hz6 H1.out HIR.out HIN.out).mono ?_
    rintro e y4 ⟨rfl, hb⟩
    have HK4 := Lib.hid (HK3.out.stay hb)
    clear hb c1 r0 n2 n3
    cases u4
    · go_wp2
      go_ret
      refine ⟨?_, HK4.out.1⟩
      rw [HUV.out, t0']
      rfl
    cases u3
    · go_wp2
      go_ret
      refine ⟨?_, HK4.out.1⟩
      rw [HUV.out, t0']
      rfl
    have r0 := HK4.out.c (b := W1.heap.size) (T := 34) (vs := rgtC ((jn : Int) + 1) rv rr true rk) (by simp) 0 _ rfl
    have r1 := HK4.out.c (b := W1.heap.size) (T := 34) (vs := rgtC ((jn : Int) + 1) rv rr true rk) (by simp) 1 _ rfl
    have r2 := HK4.out.c (b := W1.heap.size) (T := 34) (vs := rgtC ((jn : Int) + 1) rv rr true rk) (by simp) 2 _ rfl
    have r3 := HK4.out.c (b := W1.heap.size) (T := 34) (vs := rgtC ((jn : Int) + 1) rv rr true rk) (by simp) 3 _ rfl
    have r4 := HK4.out.c (b := W1.heap.size) (T := 34) (vs := rgtC ((jn : Int) + 1) rv rr true rk) (by simp) 4 _ rfl
    go_wp2_with fail
    refine (l3Live_val (s := ⟨some ⟨b, o, none⟩, l.length, c⟩) (r := ⟨(jn : Int) + 1, rv, rr, true, rk⟩) E5.out _ (HT.out.stay HK4.out.1) hz6).mono ?_
    rintro e y5 ⟨rfl, hb⟩
    have HK5 := Lib.hid (HK4.out.stay hb)
    clear hb r0 r1 r2 r3 r4
    cases u5
    · go_wp2
      go_ret
      refine ⟨?_, HK5.out.1⟩
      rw [HUV.out, t0']
      rfl
    · go_wp2
      go_ret
      refine ⟨?_, HK5.out.1⟩
      rw [HUV.out, t0']
      rfl
  cases rr
  · go_upto_region 5 with fail
    go_quiet ((go_at_call 58; refine Calls.quiet_of_same (l11Kind_val E1.out K9.out K3.out _)))
    go_wp2
    go_ret
    refine ⟨?_, (HK2.out.drewN _).1⟩
    rw [HUV.out, t0']
    rfl
  cases nw
  · go_upto_region 5 with fail
    go_quiet ((go_at_call 58; refine Calls.quiet_of_same (l11Kind_val E1.out K9.out K3.out _)))
    have HKq := Lib.hid (HK2.out.drewN nq)
    obtain ⟨Y, hY⟩ : ∃ Y, y2.drewN nq = Y := ⟨_, rfl⟩
    rw [hY] at HKq
    clear c0 c1 r0 r1 r2 r3 r4 n0 n1 n2 n3 d0 T2
    rw [hY]
    clear hY HK2
    have c1 := HKq.out.c (b := w.heap.size) (T := 25) (vs := C5.cs ⟨ck, (jr : Int) + 1, (ja : Int), cb, cn⟩) (by simp) 1 _ rfl
    have r0 := HKq.out.c (b := W1.heap.size) (T := 34) (vs := rgtC ((jn : Int) + 1) rv true rw_ rk) (by simp) 0 _ rfl
    go_wp2_with fail
    refine (l11Sees_val (s := ⟨some ⟨b, o, none⟩, l.length, c⟩) E3.out _ (HT.out.stay HKq.out.1) hz6 H1.out HIR.out HIN.out).mono ?_
    rintro e y3 ⟨rfl, hb⟩
    have HK3 := Lib.hid (HKq.out.stay hb)
    clear hb HKq c1 r0
    have n2 := HK3.out.c (b := nb) (T := 4) (vs := #[.bool true, .bool false, .bool true, .bool false]) (by simp) 2 _ rfl
    have n3 := HK3.out.c (b := nb) (T := 4) (vs := #[.bool true, .bool false, .bool true, .bool false]) (by simp) 3 _ rfl
    cases u3
    · go_wp2
      go_ret
      refine ⟨?_, HK3.out.1⟩
      rw [HUV.out, t0']
      rfl
    have r0 := HK3.out.c (b := W1.heap.size) (T := 34) (vs := rgtC ((jn : Int) + 1) rv true rw_ rk) (by simp) 0 _ rfl
    have r1 := HK3.out.c (b := W1.heap.size) (T := 34) (vs := rgtC ((jn : Int) + 1) rv true rw_ rk) (by simp) 1 _ rfl
    have r2 := HK3.out.c (b := W1.heap.size) (T := 34) (vs := rgtC ((jn : Int) + 1) rv true rw_ rk) (by simp) 2 _ rfl
    have r3 := HK3.out.c (b := W1.heap.size) (T := 34) (vs := rgtC ((jn : Int) + 1) rv true rw_ rk) (by simp) 3 _ rfl
    have r4 := HK3.out.c (b := W1.heap.size) (T := 34) (vs := rgtC ((jn : Int) + 1) rv true rw_ rk) (by simp) 4 _ rfl
    go_wp2_with fail
    refine (l3Live_val (s := ⟨some ⟨b, o, none⟩, l.length, c⟩) (r := ⟨(jn : Int) + 1, rv, true, rw_, rk⟩) E5.out _ (HT.out.stay HK3.out.1) hz6).mono ?_
    rintro e y5 ⟨rfl, hb⟩
    have HK5 := Lib.hid (HK3.out.stay hb)
    clear hb r0 r1 r2 r3 r4
    cases u5
    · go_wp2
      go_ret
      refine ⟨?_, HK5.out.1⟩
      rw [HUV.out, t0']
      rfl
    · go_wp2
      go_ret
      refine ⟨?_, HK5.out.1⟩
      rw [HUV.out, t0']
      rfl
  cases rw_
  · go_upto_region 5 with fail
    go_quiet ((go_at_call 58; refine Calls.quiet_of_same (l11Kind_val E1.out K9.out K3.out _)))
    go_wp2
    go_ret
    refine ⟨?_, (HK2.out.drewN _).1⟩
    rw [HUV.out, t0']
    rfl
  go_upto_region 5 with fail
  go_quiet ((go_at_call 58; refine Calls.quiet_of_same (l11Kind_val E1.out K9.out K3.out _)))
  have HKq := Lib.hid (HK2.out.drewN nq)
  obtain ⟨Y, hY⟩ : ∃ Y, y2.drewN nq = Y := ⟨_, rfl⟩
  rw [hY] at HKq
  clear c0 c1 r0 r1 r2 r3 r4 n0 n1 n2 n3 d0 T2
  rw [hY]
  clear hY HK2
  have c1 := HKq.out.c (b := w.heap.size) (T := 25) (vs := C5.cs ⟨ck, (jr : Int) + 1, (ja : Int), cb, cn⟩) (by simp) 1 _ rfl
  have r0 := HKq.out.c (b := W1.heap.size) (T := 34) (vs := rgtC ((jn : Int) + 1) rv true true rk) (by simp) 0 _ rfl
  go_wp2_with fail
  refine (l11Sees_val (s := ⟨some ⟨b, o, none⟩, l.length, c⟩) E3.out _ (HT.out.stay HKq.out.1) hz6 H1.out HIR.out HIN.out).mono ?_
  rintro e y3 ⟨rfl, hb⟩
  have HK3 := Lib.hid (HKq.out.stay hb)
  clear hb HKq c1 r0
  have n2 := HK3.out.c (b := nb) (T := 4) (vs := #[.bool true, .bool true, .bool true, .bool true]) (by simp) 2 _ rfl
  have n3 := HK3.out.c (b := nb) (T := 4) (vs := #[.bool true, .bool true, .bool true, .bool true]) (by simp) 3 _ rfl
  cases u3
  · go_wp2
    go_ret
    refine ⟨?_, HK3.out.1⟩
    rw [HUV.out, t0']
    rfl
  clear n2 n3
  have c1 := HK3.out.c (b := w.heap.size) (T := 25) (vs := C5.cs ⟨ck, (jr : Int) + 1, (ja : Int), cb, cn⟩) (by simp) 1 _ rfl
  have r0 := HK3.out.c (b := W1.heap.size) (T := 34) (vs := rgtC ((jn : Int) + 1) rv true true rk) (by simp) 0 _ rfl
  have n2 := HK3.out.c (b := nb) (T := 4) (vs := #[.bool true, .bool true, .bool true, .bool true]) (by simp) 2 _ rfl
  have n3 := HK3.out.c (b := nb) (T := 4) (vs := #[.bool true, .bool true, .bool true, .bool true]) (by simp) 3 _ rfl
  go_wp2_with fail
  refine (l11Touches_val (s := ⟨some ⟨b, o, none⟩, l.length, c⟩) E4.out _ (HT.out.stay HK3.out.1) hz6 H1.out HIR.out HIN.out).mono ?_
  rintro e y4 ⟨rfl, hb⟩
  have HK4 := Lib.hid (HK3.out.stay hb)
  clear hb c1 r0 n2 n3
  cases u4
  · go_wp2
    go_ret
    refine ⟨?_, HK4.out.1⟩
    rw [HUV.out, t0']
    rfl
  have r0 := HK4.out.c (b := W1.heap.size) (T := 34) (vs := rgtC ((jn : Int) + 1) rv true true rk) (by simp) 0 _ rfl
  have r1 := HK4.out.c (b := W1.heap.size) (T := 34) (vs := rgtC ((jn : Int) + 1) rv true true rk) (by simp) 1 _ rfl
  have r2 := HK4.out.c (b := W1.heap.size) (T := 34) (vs := rgtC ((jn : Int) + 1) rv true true rk) (by simp) 2 _ rfl
  have r3 := HK4.out.c (b := W1.heap.size) (T := 34) (vs := rgtC ((jn : Int) + 1) rv true true rk) (by simp) 3 _ rfl
  have r4 := HK4.out.c (b := W1.heap.size) (T := 34) (vs := rgtC ((jn : Int) + 1) rv true true rk) (by simp) 4 _ rfl
  go_wp2_with fail
  refine (l3Live_val (s := ⟨some ⟨b, o, none⟩, l.length, c⟩) (r := ⟨(jn : Int) + 1, rv, true, true, rk⟩) E5.out _ (HT.out.stay HK4.out.1) hz6).mono ?_
  rintro e y5 ⟨rfl, hb⟩
  have HK5 := Lib.hid (HK4.out.stay hb)
  clear hb r0 r1 r2 r3 r4
  cases u5
  · go_wp2
    go_ret
    refine ⟨?_, HK5.out.1⟩
    rw [HUV.out, t0']
    rfl
  · go_wp2
    go_ret
    refine ⟨?_, HK5.out.1⟩
    rw [HUV.out, t0']
    rfl
end Go.Proofs.YtbopficnajdaoaaGreatDoor

namespace Go.Proofs.YtbopficnajdaoaaGreatDoor
open Go.RowKit
set_option linter.unusedVariables false
set_option maxRecDepth 100000

theorem l11Check_any (l : List T8) (s : Sl) (c : C5) (w : World) (ht : HasT w s l) (h1 : (tabOk l && isRun l c.r) = true) (h2 : c.ok = true) :
    Calls Tryz.prog 59 #[.slice s.a s.n s.c, .agg #[.int .i64 c.k, .int .i64 c.r, .int .i64 c.a, .int .i64 c.b, .int .i64 c.n]] w fun e w' => e = .returned (.int .i64 (chkV l c)) ∧ Below w.heap.size w w' := by
  rw [chkV_go h1 h2]
  by_cases h3 : c.k = 3
  · rw [if_pos h3, h3]
    exact l11Check_copy l s c.r c.a c.b c.n w
  rw [if_neg h3]
  obtain ⟨k9, -, -, a0, a3⟩ := ok_k h2
  obtain ⟨rl, rs⟩ := run_slots h1
  have hT : tabOk l = true := by simp only [Bool.and_eq_true] at h1; exact h1.1
  have hR : isRun l c.r = true := by simp only [Bool.and_eq_true] at h1; exact h1.2
  have hI : inR c.r 1 l.length = true := by simp only [isRun, Bool.and_eq_true] at hR; exact hR.1
  obtain ⟨jr, hjr, hn⟩ := idx_of hI
  rw [thAt_of hjr hn] at rl rs ⊢
  obtain ⟨b, o, ea, hTb⟩ := ht.ne hjr
  obtain ⟨ss, qs, hSS, -, hA⟩ := hTb jr hjr
  obtain ⟨ja, hja⟩ : ∃ ja : Nat, c.a = ja := ⟨c.a.toNat, by omega⟩
  have hjs : ja < l[jr].slots.length := by omega
  obtain ⟨rb, ro, hsa, hB⟩ := hSS.at hjs
  rw [slotAt_of hjs hja]
  obtain ⟨r1, r2⟩ := rs ja hjs
  have hsn := hSS.len
  rw [rl] at hsn
  obtain ⟨sa, sn, sc⟩ := ss
  dsimp only at hsa hsn
  subst hsa hsn
  have ht' : HasT w ⟨some ⟨b, o, none⟩, l.length, s.c⟩ l := ⟨rfl, by have := ht.2.1; rw [ht.1] at this; exact this, .inr ⟨b, o, rfl, hTb⟩⟩
  have hl8 := (tab_len hT).2
  have ecr : c.r = (jr : Int) + 1 := by omega
  have r1' := R5.bd r1
  obtain ⟨x, hx⟩ : ∃ x, l[jr].slots[ja] = x := ⟨_, rfl⟩
  rw [hx] at hB r1' r2 ⊢
  obtain ⟨rt, rv, rr, rw_, rk⟩ := x
  rw [ht.1, ea, ecr, hja]
  exact l11Check_at l b o s.c c.k jr ja c.b c.n hjr rb ro sc qs rt rv rr rw_ rk w ht' hl8 hT k9 h3 (by omega) hA hB r1'.1 r2
theorem l11Check_val {l : List T8} {s : Sl} {c : C5} {v : Int} (hv : chkV l c = v) (w : World) (ht : HasT w s l) (h1 : (tabOk l && isRun l c.r) = true) (h2 : c.ok = true) :
    Calls Tryz.prog 59 #[.slice s.a s.n s.c, .agg #[.int .i64 c.k, .int .i64 c.r, .int .i64 c.a, .int .i64 c.b, .int .i64 c.n]] w fun e w' => e = .returned (.int .i64 v) ∧ Below w.heap.size w w' := by
  subst hv; exact l11Check_any l s c w ht h1 h2

set_option maxHeartbeats 4000000 in
theorem specCheck_any (l : List T8) (s : Sl) (c : C5) (w : World) (ht : HasT w s l) (hz : l.length ≤ 1048576) (hzs : ∀ i (h : i < l.length), l[i].slots.length ≤ 1048576) :
    Calls Tryz.prog 34 #[.slice s.a s.n s.c, .agg #[.int .i64 c.k, .int .i64 c.r, .int .i64 c.a, .int .i64 c.b, .int .i64 c.n]] w fun e w' => e = .returned (.int .i64 (chkV l c)) ∧ Below w.heap.size w w' := by
  have HK0 := Lib.hid ((Kn.refl (w := w)).new 25 c.cs)
  have HT := Lib.hid ht
  have HZS := Lib.hid hzs
  clear ht hzs
  obtain ⟨v, hv⟩ : ∃ v, chkV l c = v := ⟨_, rfl⟩
  have HV := Lib.hid hv
  clear hv
  obtain ⟨b1, hb1⟩ : ∃ b1, tabOk l = b1 := ⟨_, rfl⟩
  have HB1 := Lib.hid hb1
  clear hb1
  go_enter Tryz.func34, Tryz.ntmps34
  go_wp2_with fail
  refine (specTabOk_val' HB1.out _ (HT.out.stay HK0.out.1) hz HZS.out).mono ?_
  rintro e y1 ⟨rfl, hb⟩
  have HK1 := Lib.hid (HK0.out.stay hb)
  clear hb HK0
  cases b1
  · go_wp2
    go_ret
    exact ⟨by rw [chkV_no (by rw [HB1.out]; rfl)]; rfl, HK1.out.1⟩
  obtain ⟨b2, hb2⟩ : ∃ b2, c.ok = b2 := ⟨_, rfl⟩
  have HB2 := Lib.hid hb2
  clear hb2
  have c0 := HK1.out.c (b := w.heap.size) (T := 25) (vs := c.cs) (by simp) 0 _ rfl
  have c1 := HK1.out.c (b := w.heap.size) (T := 25) (vs := c.cs) (by simp) 1 _ rfl
  have c2 := HK1.out.c (b := w.heap.size) (T := 25) (vs := c.cs) (by simp) 2 _ rfl
  have c3 := HK1.out.c (b := w.heap.size) (T := 25) (vs := c.cs) (by simp) 3 _ rfl
  have c4 := HK1.out.c (b := w.heap.size) (T := 25) (vs := c.cs) (by simp) 4 _ rfl
  go_wp2_with fail
  refine (specCallOk_val HB2.out _).mono ?_
  rintro e y2 ⟨rfl, hb⟩
  have HK2 := Lib.hid (HK1.out.stay hb)
  clear hb HK1 c0 c1 c2 c3 c4
  cases b2
  · go_wp2
    go_ret
    exact ⟨by rw [chkV_bad HB2.out]; rfl, HK2.out.1⟩
  obtain ⟨b3, hb3⟩ : ∃ b3, isRun l c.r = b3 := ⟨_, rfl⟩
  have HB3 := Lib.hid hb3
  clear hb3
  have c0 := HK2.out.c (b := w.heap.size) (T := 25) (vs := c.cs) (by simp) 0 _ rfl
  have c1 := HK2.out.c (b := w.heap.size) (T := 25) (vs := c.cs) (by simp) 1 _ rfl
  have c2 := HK2.out.c (b := w.heap.size) (T := 25) (vs := c.cs) (by simp) 2 _ rfl
  have c3 := HK2.out.c (b := w.heap.size) (T := 25) (vs := c.cs) (by simp) 3 _ rfl
  have c4 := HK2.out.c (b := w.heap.size) (T := 25) (vs := c.cs) (by simp) 4 _ rfl
  go_wp2_with fail
  refine (l11Run_val HB3.out _ (HT.out.stay HK2.out.1) hz).mono ?_
  rintro e y3 ⟨rfl, rfl⟩
  cases b3
  · go_wp2
    go_ret
    exact ⟨by rw [chkV_no (by rw [HB3.out, Bool.and_false])]; rfl, HK2.out.1⟩
  go_wp2_with fail
  refine (l11Check_val HV.out _ (HT.out.stay HK2.out.1) (by rw [HB1.out, HB3.out]; rfl) HB2.out).mono ?_
  rintro e y4 ⟨rfl, hb⟩
  have HK3 := Lib.hid (HK2.out.stay hb)
  clear hb HK2 c0 c1 c2 c3 c4
  go_wp2
  go_ret
  exact ⟨by rw [HV.out]; rfl, HK3.out.1⟩
theorem specCheck_val {l : List T8} {s : Sl} {c : C5} {v : Int} (h : chkV l c = v) (w : World) (ht : HasT w s l) (hz : l.length ≤ 1048576) (hzs : ∀ i (h : i < l.length), l[i].slots.length ≤ 1048576) :
    Calls Tryz.prog 34 #[.slice s.a s.n s.c, .agg #[.int .i64 c.k, .int .i64 c.r, .int .i64 c.a, .int .i64 c.b, .int .i64 c.n]] w fun e w' => e = .returned (.int .i64 v) ∧ Below w.heap.size w w' := by
  subst h; exact specCheck_any l s c w ht hz hzs
end Go.Proofs.YtbopficnajdaoaaGreatDoor

namespace Go.Proofs.YtbopficnajdaoaaGreatDoor
open Go.RowKit
set_option maxRecDepth 100000
set_option linter.unusedVariables false

theorem useV_lt {l : List T8} {p : T8} {r : R5} {k : Int} (h : useV l p r k ≠ -1) (h0 : 0 ≤ r.t) (hl : r.t ≤ l.length) : inR r.t 1 l.length = true := by
  cases h1 : inR r.t 1 l.length with
  | true => rfl
  | false => exact absurd (useV_none h1 h0 hl) h
/-- What stands where a call is not refused outright. -/
theorem chk_facts {l : List T8} {q : C5} {v : Int} (h : chkV l q = v) (hv : v ≠ -1) (h3 : q.k ≠ 3) :
    (tabOk l && isRun l q.r) = true ∧ q.ok = true ∧ inR (slotAt (thAt l q.r) q.a).t 1 l.length = true ∧ kindOk q.k (thAt l (slotAt (thAt l q.r) q.a).t).kind = true ∧
    ((!needR q.k || (slotAt (thAt l q.r) q.a).r) && (!needW q.k || (slotAt (thAt l q.r) q.a).w)) = true ∧
    v = if ((!needR q.k || seesT (thAt l q.r) (thAt l (slotAt (thAt l q.r) q.a).t)) && (!needW q.k || touT (thAt l q.r) (thAt l (slotAt (thAt l q.r) q.a).t))) = false then -2 else if (seesT (thAt l q.r) (thAt l (slotAt (thAt l q.r) q.a).t) && !liveB l (slotAt (thAt l q.r) q.a)) then -3 else 0 := by
  subst h
  cases h1 : (tabOk l && isRun l q.r) with
  | false => exact absurd (chkV_no h1) hv
  | true =>
    cases h2 : q.ok with
    | false => exact absurd (chkV_bad h2) hv
    | true =>
      have hg := chkV_go h1 h2
      rw [if_neg h3] at hg
      rw [hg] at hv
      obtain ⟨rl, rs⟩ := run_slots h1
      obtain ⟨-, -, -, a0, a3⟩ := ok_k h2
      obtain ⟨ja, hja⟩ : ∃ ja : Nat, q.a = ja := ⟨q.a.toNat, by omega⟩
      have hjs : ja < (thAt l q.r).slots.length := by omega
      have e := slotAt_of hjs hja
      obtain ⟨r1, r2⟩ := rs ja hjs
      rw [← e] at r1 r2
      have hi := useV_lt hv (R5.bd r1).1 r2
      cases hk : kindOk q.k (thAt l (slotAt (thAt l q.r) q.a).t).kind with
      | false => exact absurd (useV_kind hk) hv
      | true =>
        cases hr : ((!needR q.k || (slotAt (thAt l q.r) q.a).r) && (!needW q.k || (slotAt (thAt l q.r) q.a).w)) with
        | false => exact absurd (useV_right hr) hv
        | true => exact ⟨rfl, rfl, hi, rfl, rfl, by rw [hg]; exact useV_go hi hk hr⟩
/-- Where the right that a call uses lies. -/
theorem slot_at {y : World} {g n c : Nat} {l : List T8} {q : C5} (ht : HasT y ⟨some ⟨g, 0, none⟩, n, c⟩ l) (h1 : (tabOk l && isRun l q.r) = true) (h2 : q.ok = true) :
    ∃ (jr ja : Nat) (hjr : jr < l.length) (rb ro sc : Nat) (qs : Sl), q.r = (jr : Int) + 1 ∧ q.a = ja ∧ ja < 4 ∧ thAt l q.r = l[jr] ∧ At y g (jr * 8) (l[jr].cs ⟨some ⟨rb, ro, none⟩, 4, sc⟩ qs) ∧ At y rb (ro + ja * 5) (slotAt (thAt l q.r) q.a).cs ∧ (slotAt (thAt l q.r) q.a).ok = true := by
  obtain ⟨k9, -, -, a0, a3⟩ := ok_k h2
  obtain ⟨rl, rs⟩ := run_slots h1
  have hR : isRun l q.r = true := by simp only [Bool.and_eq_true] at h1; exact h1.2
  have hI : inR q.r 1 l.length = true := by simp only [isRun, Bool.and_eq_true] at hR; exact hR.1
  obtain ⟨jr, hjr, hn⟩ := idx_of hI
  have hth := thAt_of hjr hn
  rw [hth] at rl rs
  obtain ⟨b, o, ea, hTb⟩ := ht.ne hjr
  simp only [Option.some.injEq, Addr.mk.injEq] at ea
  obtain ⟨rfl, rfl, -⟩ := ea
  obtain ⟨ss, qs, hSS, -, hA⟩ := hTb jr hjr
  obtain ⟨ja, hja⟩ : ∃ ja : Nat, q.a = ja := ⟨q.a.toNat, by omega⟩
  have hjs : ja < l[jr].slots.length := by omega
  obtain ⟨rb, ro, hsa, hB⟩ := hSS.at hjs
  obtain ⟨r1, r2⟩ := rs ja hjs
  have hsn := hSS.len
  rw [rl] at hsn
  obtain ⟨sa, sn, sc⟩ := ss
  dsimp only at hsa hsn
  subst hsa hsn
  refine ⟨jr, ja, hjr, rb, ro, sc, qs, by omega, hja, by omega, hth, by simpa using hA, ?_, ?_⟩
  · rw [hth, slotAt_of hjs hja]; exact hB
  · rw [hth, slotAt_of hjs hja]; exact r1
theorem chkSees_run {l : List T8} {r n : Int} (h : (tabOk l && isRun l r) = true) (hn : inR n 1 l.length = true) : chkSees l r n = seesT (thAt l r) (thAt l n) := by
  simp only [Bool.and_eq_true] at h
  simp [chkSees, h.1, h.2, hn]
theorem chkTou_run {l : List T8} {r n : Int} (h : (tabOk l && isRun l r) = true) (hn : inR n 1 l.length = true) : chkTou l r n = touT (thAt l r) (thAt l n) := by
  simp only [Bool.and_eq_true] at h
  simp [chkTou, h.1, h.2, hn]
theorem kind_of {k d : Int} (h : kindOk k d = true) : d ∈ kindsOf k := by simpa [kindOk, inL] using h
end Go.Proofs.YtbopficnajdaoaaGreatDoor
