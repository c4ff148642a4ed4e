/-
  Texts of ours as one: DoD, DeeF, DeeC, Act, DoF, DoI, DeeG, CpX, Exe, Cdo, DoJ.
-/
import Derived.Test.YtbopficnajdaoaaGreatDoorCkN
import Derived.Test.YtbopficnajdaoaaGreatDoorDeM
import Derived.Deep.DeepCutAuto
import Derived.Deep.RegionHeld3
import Derived.Test.YtbopficnajdaoaaGreatDoorTaM
import Derived.BigRegion
namespace Go.Proofs.YtbopficnajdaoaaGreatDoor
open Go.RowKit
set_option linter.unusedVariables false

/-- A thing of a number is another one. -/
def setTh (l : List T8) (n : Int) (x : T8) : List T8 := l.set (n - 1).toNat x
/-- What a call does to a thing that is as the right says. -/
def farV (l : List T8) (c : C5) (r : R5) : List T8 × Int :=
  if c.k = 1 then (l, (thAt l r.t).num)
  else if c.k = 2 then (setTh l r.t { thAt l r.t with num := c.n }, 0)
  else if c.k = 4 then (setTh l c.r { thAt l c.r with slots := (thAt l c.r).slots.set c.b.toNat (if r.k then lessR (slotAt (thAt l r.t) (c.n % 4)) true false false else slotAt (thAt l r.t) (c.n % 4)) }, 0)
  else if c.k = 5 then (setTh l r.t { thAt l r.t with slots := (thAt l r.t).slots.set (c.n % 4).toNat (slotAt (thAt l c.r) c.b) }, 0)
  else if c.k = 6 then (if 3 ≤ (thAt l r.t).queue.length then (l, -4) else (setTh l r.t { thAt l r.t with queue := (thAt l r.t).queue ++ [c.n] }, 0))
  else if c.k = 7 then (match (thAt l r.t).queue with | [] => (l, -4) | q :: qs => (setTh l r.t { thAt l r.t with queue := qs }, q))
  else if c.k = 8 then (if 5 ≤ (thAt l r.t).vers then (l, -4) else (setTh l r.t { newT (thAt l r.t).kind (thAt l r.t).sec (thAt l r.t).vou 0 with vers := (thAt l r.t).vers + 1 }, 0))
  else (setTh (setTh l (thAt l r.t).to { thAt l (thAt l r.t).to with num := c.n % 2 }) r.t { thAt l r.t with num := min ((thAt l r.t).num + 1) 99 }, 0)
/-- The three marks of a number. -/
def mk1 (n : Int) : Bool := n % 2 == 1
def mk2 (n : Int) : Bool := n / 2 % 2 == 1
def mk4 (n : Int) : Bool := n / 4 % 2 == 1
/-- What a call of a runner does, but for its number. -/
def actV (l : List T8) (c : C5) : List T8 × Int :=
  if chkV l c < 0 then (l, chkV l c)
  else if c.k = 3 then (setTh l c.r { thAt l c.r with slots := (thAt l c.r).slots.set c.b.toNat (lessR (slotAt (thAt l c.r) c.a) (mk1 c.n) (mk2 c.n) (mk4 c.n)) }, 0)
  else if liveB l (slotAt (thAt l c.r) c.a) then ((farV l c (slotAt (thAt l c.r) c.a)).1, if seesT (thAt l c.r) (thAt l (slotAt (thAt l c.r) c.a).t) then (farV l c (slotAt (thAt l c.r) c.a)).2 else 0)
  else (l, 0)
def doV (l : List T8) (c : C5) : List T8 × Int := (setTh (actV l c).1 c.r { thAt (actV l c).1 c.r with num := (actV l c).2 }, (actV l c).2)
/-- A call: the table and the answer. -/
def callV (l : List T8) (c : C5) : List T8 × Int := if tabOk l && (isRun l c.r && c.ok) then doV l c else ([], -1)
/-- What a call leaves. -/
def DoPost (l : List T8) (c : C5) (w : World) (e : Ending) (w' : World) : Prop :=
  ∃ (s' : Sl) (ts : List Tr), e = .returned (.tuple #[.slice s'.a s'.n s'.c, .int .i64 (callV l c).2]) ∧ TaW w.heap.size w' s' ts ∧ ts.map (·.1) = (callV l c).1 ∧ Below w.heap.size w w'
end Go.Proofs.YtbopficnajdaoaaGreatDoor

namespace Go.Proofs.YtbopficnajdaoaaGreatDoor
open Go.RowKit
set_option maxRecDepth 100000
set_option linter.unusedVariables false

/-- A right stored in a runner's slot: what the store wants, and what it leaves. -/
theorem slot_put {n0 : Nat} {w Y V : World} {s : Sl} {ts : List Tr} {g jr jb : Nat} {tc : T8} {ta tcp : Nat} {tq : Sl} {y : R5} (hT : TaW n0 Y s ts) (hn : n0 ≤ w.heap.size) (hwY : Below w.heap.size w Y) (hs : s.a = some ⟨g, 0, none⟩) (ht : ts[jr]? = some (tc, ⟨some ⟨ta, 0, none⟩, 4, tcp⟩, tq)) (hy : tc.slots[jb]? = some y) (hV : Below Y.heap.size Y V) (v : R5) :
    DeedPost n0 w s (ts.set jr ({ tc with slots := tc.slots.set jb v }, ⟨some ⟨ta, 0, none⟩, 4, tcp⟩, tq)) 0 (.returned (.int .i64 0)) (set5 V ta (jb * 5) v) ∧
      V.cell? ⟨g, jr * 8 + 5, none⟩ = some (.slice (some ⟨ta, 0, none⟩) 4 tcp) ∧ V.cell? ⟨ta, jb * 5, none⟩ = some (.int .i64 y.t) ∧ V.cell? ⟨ta, jb * 5 + 1, none⟩ = some (.int .i64 y.v) ∧ V.cell? ⟨ta, jb * 5 + 2, none⟩ = some (.bool y.r) ∧ V.cell? ⟨ta, jb * 5 + 3, none⟩ = some (.bool y.w) ∧ V.cell? ⟨ta, jb * 5 + 4, none⟩ = some (.bool y.k) ∧
      V.frozen? ⟨ta, jb * 5, none⟩ = false ∧ V.frozen? ⟨ta, jb * 5 + 1, none⟩ = false ∧ V.frozen? ⟨ta, jb * 5 + 2, none⟩ = false ∧ V.frozen? ⟨ta, jb * 5 + 3, none⟩ = false ∧ V.frozen? ⟨ta, jb * 5 + 4, none⟩ = false := by
  have hl : jb < tc.slots.length := (List.getElem?_eq_some_iff.1 hy).1
  have tV := hT.stay hV
  obtain ⟨b2, TB, cur2, hTB, e2, hb2, bx2, -⟩ := rowFour (tV.get ht).1 (show tc.slots.length = 4 by rw [← (tV.get ht).1.1])
  cases e2
  have hz2 := rowBig (tV.get ht).1 (show tc.slots.length = 4 by rw [← (tV.get ht).1.1]) rfl bx2
  have ra := (tV.get ht).1.at szR rfl hy
  have bl : Below w.heap.size w V := hwY.trans (hV.mono hwY.size)
  exact ⟨deed_post (V := V) (tV.slot ht (b := ta) rfl (k := jb) hl v) (bl.mono hn) bl.size (set5_below hb2 v) (fun b T cs _ _ kx => kx.stay bl) (fun b T cs hN kx => set5_other kx (hN.row kx bx2 hTB hz2) v), tV.at hs ht 5 _ rfl, ra 0 _ rfl, ra 1 _ rfl, ra 2 _ rfl, ra 3 _ rfl, ra 4 _ rfl, bx2.thaw _, bx2.thaw _, bx2.thaw _, bx2.thaw _, bx2.thaw _⟩
theorem kn_right {Y V : World} (hV : Below Y.heap.size Y V) {x : R5} {b : Nat} (hb : Y.heap.size ≤ b) (bx : Box V b 34 (R5.cs x)) (z : R5) : Below Y.heap.size Y (((((V.setCell ⟨b, 0, none⟩ (.int .i64 z.t)).setCell ⟨b, 1, none⟩ (.int .i64 z.v)).setCell ⟨b, 2, none⟩ (.bool z.r)).setCell ⟨b, 3, none⟩ (.bool z.w)).setCell ⟨b, 4, none⟩ (.bool z.k)) ∧
    Box (((((V.setCell ⟨b, 0, none⟩ (.int .i64 z.t)).setCell ⟨b, 1, none⟩ (.int .i64 z.v)).setCell ⟨b, 2, none⟩ (.bool z.r)).setCell ⟨b, 3, none⟩ (.bool z.w)).setCell ⟨b, 4, none⟩ (.bool z.k)) b 34 (R5.cs z) := by
  refine ⟨((((hV.setCell (p := ⟨b, 0, none⟩) hb _).setCell (p := ⟨b, 1, none⟩) hb _).setCell (p := ⟨b, 2, none⟩) hb _).setCell (p := ⟨b, 3, none⟩) hb _).setCell (p := ⟨b, 4, none⟩) hb _, ?_⟩
  have := ((((bx.put 0 (.int .i64 z.t)).put 1 (.int .i64 z.v)).put 2 (.bool z.r)).put 3 (.bool z.w)).put 4 (.bool z.k)
  simpa using this
set_option maxHeartbeats 4000000 in
theorem deedFetch (n0 : Nat) (s : Sl) (ts : List Tr) (ck cr ca : Int) (jb : Nat) (cn : Int) (r : R5) (g jr jo jn : Nat) (tc uc : T8) (ta ua tcp ucp : Nat) (tq uq : Sl) (w : World) (hT : TaW n0 w s ts) (hn : n0 ≤ w.heap.size) (hs : s.a = some ⟨g, 0, none⟩) (ht : ts[jr]? = some (tc, ⟨some ⟨ta, 0, none⟩, 4, tcp⟩, tq)) (hu : ts[jo]? = some (uc, ⟨some ⟨ua, 0, none⟩, 4, ucp⟩, uq)) (x y : R5) (hx : uc.slots[jn]? = some x) (hy : tc.slots[jb]? = some y) (hjb : jb < 4) (hjn : jn < 4) (hrem : Int.tmod cn 4 = (jn : Int)) :
    Calls Tryz.prog 93 #[.agg (deedC s ⟨ck, cr, ca, (jb : Int), cn⟩ (ptr g jr) r (ptr g jo))] w (DeedPost n0 w s (ts.set jr ({ tc with slots := tc.slots.set jb (if r.k then lessR x true false false else x) }, ⟨some ⟨ta, 0, none⟩, 4, tcp⟩, tq)) 0) := by
  obtain ⟨rt, rv, rr, rw_, rk⟩ := r
  dsimp only
  obtain ⟨z, hz⟩ : ∃ z, (if rk then lessR x true false false else x) = z := ⟨_, rfl⟩
  rw [hz]
  have HZ := Lib.hid hz
  clear hz
  obtain ⟨Y, hY⟩ : ∃ Y, w.alloc (.cells (deedC s ⟨ck, cr, ca, (jb : Int), cn⟩ (ptr g jr) ⟨rt, rv, rr, rw_, rk⟩ (ptr g jo)) 88) = Y := ⟨_, rfl⟩
  have K := deed_box w (deedC s ⟨ck, cr, ca, (jb : Int), cn⟩ (ptr g jr) ⟨rt, rv, rr, rw_, rk⟩ (ptr g jo))
  rw [hY] at K
  have t1 := hT.stay K.1
  have cu5 := t1.at hs hu 5 _ rfl
  have ra := (t1.get hu).1.at szR rfl hx
  have ra0 := ra 0 _ rfl
  rw [Nat.add_zero] at ra0
  have ra1 := ra 1 _ rfl
  have ra2 := ra 2 _ rfl
  have ra3 := ra 3 _ rfl
  have ra4 := ra 4 _ rfl
  have k5 := K.c (b := w.heap.size) (T := 88) (vs := deedC s ⟨ck, cr, ca, (jb : Int), cn⟩ (ptr g jr) ⟨rt, rv, rr, rw_, rk⟩ (ptr g jo)) (by simp) 5 _ rfl
  have k12 := K.c (b := w.heap.size) (T := 88) (vs := deedC s ⟨ck, cr, ca, (jb : Int), cn⟩ (ptr g jr) ⟨rt, rv, rr, rw_, rk⟩ (ptr g jo)) (by simp) 12 _ rfl
  obtain ⟨Y1, hY1⟩ : ∃ Y1, (Y.drew).alloc (.cells (R5.cs x) 34) = Y1 := ⟨_, rfl⟩
  have b1 : Below Y.heap.size Y Y1 := hY1 ▸ ((Below.refl _ _).drew).alloc (Nat.le_refl _) _
  have bR : Box Y1 Y.heap.size 34 (R5.cs x) := by
    have := Box.fresh Y.drew 34 (R5.cs x)
    rw [hY1] at this
    exact this
  have bA : Below Y.heap.size Y (Y.alloc (.cells #[.int .i64 0, .int .i64 0, .bool false, .bool false, .bool false] 34)) := (Below.refl _ _).alloc (Nat.le_refl _) _
  have xu5 := stayCell cu5 bA
  have xa0 := stayCell ra0 bA
  have xa1 := stayCell ra1 bA
  have xa2 := stayCell ra2 bA
  have xa3 := stayCell ra3 bA
  have xa4 := stayCell ra4 bA
  have xk5 := stayCell k5 bA
  have xk12 := stayCell k12 bA
  clear bA
  have hj2 : (jn : Int) < 4 := by omega
  have hj3 : (jb : Int) < 4 := by omega
  have T0 := Lib.hid t1
  have K0 := Lib.hid K
  have HWY := Lib.hid K.1
  have B1 := Lib.hid b1
  have BR := Lib.hid bR
  have HS := Lib.hid hs
  have HTT := Lib.hid ht
  have HYY := Lib.hid hy
  clear K hT t1 b1 bR ra hs ht hu hx hy
  go_enter Tryz.func93, Tryz.ntmps93
  go_upto_region 1 with fail
  go_cut [3] (fun sl wx => sl = .pointer (some ⟨Y.heap.size, 0, none⟩) ∧ wx = Y1)
  case first =>
    go_region
    all_goals
      go_wp2_with fail
      go_meet
      first | exact ⟨rfl, rfl⟩ | exact ⟨rfl, hY1⟩
  case rest =>
    obtain ⟨rfl, rfl⟩ := hcut
    clear cu5 ra0 ra1 ra2 ra3 ra4 k5 k12 xu5 xa0 xa1 xa2 xa3 xa4 xk5 xk12 hY1
    have K1 := Lib.hid (K0.out.stay B1.out)
    have HPZ := Lib.hid (fun (V : World) (hV : Below Y.heap.size Y V) => slot_put (V := V) T0.out hn HWY.out HS.out HTT.out HYY.out hV z)
    have k11 := K1.out.c (b := w.heap.size) (T := 88) (vs := deedC s ⟨ck, cr, ca, (jb : Int), cn⟩ (ptr g jr) ⟨rt, rv, rr, rw_, rk⟩ (ptr g jo)) (by simp) 11 _ rfl
    have q0 := BR.out.cell 0 _ rfl
    have q1 := BR.out.cell 1 _ rfl
    have q2 := BR.out.cell 2 _ rfl
    have q3 := BR.out.cell 3 _ rfl
    have q4 := BR.out.cell 4 _ rfl
    go_upto_if 17 with fail
    go_cut [] (fun wx => Below Y.heap.size Y wx ∧ Box wx Y.heap.size 34 (R5.cs z))
    case first =>
      cases rk
      · have hzx : x = z := HZ.out
        go_wp2_with fail
        go_meet
        exact ⟨B1.out, hzx ▸ BR.out⟩
      · have HZX := Lib.hid (show lessR x true false false = z from HZ.out)
        go_wp2_with fail
        refine (implLess_any x.t x.v x.r x.w x.k true false false _).mono ?_
        rintro e y2 ⟨rfl, hb⟩
        have bR2 := BR.out.stay hb
        have b2 : Below Y.heap.size Y y2 := B1.out.trans (hb.mono B1.out.size)
        have p0 := bR2.cell 0 _ rfl
        have p1 := bR2.cell 1 _ rfl
        have p2 := bR2.cell 2 _ rfl
        have p3 := bR2.cell 3 _ rfl
        have p4 := bR2.cell 4 _ rfl
        have g0 := bR2.thaw 0
        have g1 := bR2.thaw 1
        have g2 := bR2.thaw 2
        have g3 := bR2.thaw 3
        have g4 := bR2.thaw 4
        have HK := Lib.hid (kn_right b2 (Nat.le_refl _) bR2 (lessR x true false false))
        clear hb b2 q0 q1 q2 q3 q4 k11 bR2
        go_wp2_with fail
        go_meet
        have h := HK.out
        simp only [lessR, Bool.and_true, Bool.and_false, Bool.or_true, Bool.not_false] at h
        rw [← HZX.out]
        simpa [lessR] using h
    case rest =>
      obtain ⟨hB, hR⟩ := hcut
      have B2 := Lib.hid hB
      have BR2 := Lib.hid hR
      have K2 := Lib.hid (K0.out.stay hB)
      have hP := (HPZ.out wc.drew hB.drew).1
      obtain ⟨-, c5, a0, a1, a2, a3, a4, f0, f1, f2, f3, f4⟩ := HPZ.out wc hB
      have HP := Lib.hid hP
      have m4 := K2.out.c (b := w.heap.size) (T := 88) (vs := deedC s ⟨ck, cr, ca, (jb : Int), cn⟩ (ptr g jr) ⟨rt, rv, rr, rw_, rk⟩ (ptr g jo)) (by simp) 4 _ rfl
      have m6 := K2.out.c (b := w.heap.size) (T := 88) (vs := deedC s ⟨ck, cr, ca, (jb : Int), cn⟩ (ptr g jr) ⟨rt, rv, rr, rw_, rk⟩ (ptr g jo)) (by simp) 6 _ rfl
      have n0 := BR2.out.cell 0 _ rfl
      have n1 := BR2.out.cell 1 _ rfl
      have n2 := BR2.out.cell 2 _ rfl
      have n3 := BR2.out.cell 3 _ rfl
      have n4 := BR2.out.cell 4 _ rfl
      clear hP hB hR q0 q1 q2 q3 q4 k11
      go_wp2_with fail
      go_region
      all_goals
        go_wp2
        go_ret
        exact HP.out
end Go.Proofs.YtbopficnajdaoaaGreatDoor

namespace Go.Proofs.YtbopficnajdaoaaGreatDoor
open Go.RowKit
set_option maxRecDepth 100000
set_option linter.unusedVariables false

theorem and_marks (n : Int) (h : 0 ≤ n ∧ n ≤ 99) : (bits BinOp.and IntKind.i64 n 1 != 0) = mk1 n ∧ (bits BinOp.and IntKind.i64 n 2 != 0) = mk2 n ∧ (bits BinOp.and IntKind.i64 n 4 != 0) = mk4 n := by
  have key : ∀ k : Fin 100, (bits BinOp.and IntKind.i64 (k.val : Int) 1 != 0) = mk1 (k.val : Int) ∧ (bits BinOp.and IntKind.i64 (k.val : Int) 2 != 0) = mk2 (k.val : Int) ∧ (bits BinOp.and IntKind.i64 (k.val : Int) 4 != 0) = mk4 (k.val : Int) := by decide +kernel
  have := key ⟨n.toNat, by omega⟩
  have e : ((n.toNat : Nat) : Int) = n := by omega
  simpa only [e] using this
theorem other5 {y : World} {b b' o : Nat} {T : TypeId} {cs : Array Value} (bx : Box y b' T cs) (hn : b' ≠ b) (v0 v1 v2 v3 v4 : Value) : Box (((((y.setCell ⟨b, o, none⟩ v0).setCell ⟨b, o + 1, none⟩ v1).setCell ⟨b, o + 2, none⟩ v2).setCell ⟨b, o + 3, none⟩ v3).setCell ⟨b, o + 4, none⟩ v4) b' T cs :=
  ((((bx.other (p := ⟨b, o, none⟩) hn v0).other (p := ⟨b, o + 1, none⟩) hn v1).other (p := ⟨b, o + 2, none⟩) hn v2).other (p := ⟨b, o + 3, none⟩) hn v3).other (p := ⟨b, o + 4, none⟩) hn v4
set_option maxHeartbeats 4000000 in
theorem deedCopy (n0 : Nat) (s : Sl) (ts : List Tr) (ck cr ca : Int) (jb : Nat) (cn : Int) (r : R5) (g jr : Nat) (po : Value) (tc : T8) (ta tcp : Nat) (tq : Sl) (w : World) (hT : TaW n0 w s ts) (hn : n0 ≤ w.heap.size) (hs : s.a = some ⟨g, 0, none⟩) (ht : ts[jr]? = some (tc, ⟨some ⟨ta, 0, none⟩, 4, tcp⟩, tq)) (y : R5) (hy : tc.slots[jb]? = some y) (hjb : jb < 4) (hcn : 0 ≤ cn ∧ cn ≤ 99) :
    Calls Tryz.prog 92 #[.agg (deedC s ⟨ck, cr, ca, (jb : Int), cn⟩ (ptr g jr) r po)] w (DeedPost n0 w s (ts.set jr ({ tc with slots := tc.slots.set jb (lessR r (mk1 cn) (mk2 cn) (mk4 cn)) }, ⟨some ⟨ta, 0, none⟩, 4, tcp⟩, tq)) 0) := by
  obtain ⟨Y, hY⟩ : ∃ Y, w.alloc (.cells (deedC s ⟨ck, cr, ca, (jb : Int), cn⟩ (ptr g jr) r po) 88) = Y := ⟨_, rfl⟩
  have K := deed_box w (deedC s ⟨ck, cr, ca, (jb : Int), cn⟩ (ptr g jr) r po)
  rw [hY] at K
  have t1 := hT.stay K.1
  have k5 := K.c (b := w.heap.size) (T := 88) (vs := deedC s ⟨ck, cr, ca, (jb : Int), cn⟩ (ptr g jr) r po) (by simp) 5 _ rfl
  have hj3 : (jb : Int) < 4 := by omega
  have dB := K.box (b := w.heap.size) (T := 88) (vs := deedC s ⟨ck, cr, ca, (jb : Int), cn⟩ (ptr g jr) r po) (by simp)
  obtain ⟨-, hg0, hgl, curg, bxg⟩ := t1.1.blk hs
  obtain ⟨b2, TB, cur2, hTB, e2, hb2, bx2, -⟩ := rowFour (t1.get ht).1 (show tc.slots.length = 4 by rw [← (t1.get ht).1.1])
  cases e2
  have FX := Lib.hid (show ∀ y, Below Y.heap.size Y y → y.cell? ⟨w.heap.size, 6, none⟩ = some (ptr g jr) ∧ y.cell? ⟨w.heap.size, 4, none⟩ = some (.int .i64 (jb : Int)) ∧ y.cell? ⟨w.heap.size, 7, none⟩ = some (.int .i64 r.t) ∧ y.cell? ⟨w.heap.size, 8, none⟩ = some (.int .i64 r.v) ∧ y.cell? ⟨w.heap.size, 9, none⟩ = some (.bool r.r) ∧ y.cell? ⟨w.heap.size, 10, none⟩ = some (.bool r.w) ∧ y.cell? ⟨w.heap.size, 11, none⟩ = some (.bool r.k) ∧ y.cell? ⟨g, jr * 8 + 5, none⟩ = some (.slice (some ⟨ta, 0, none⟩) 4 tcp) from fun y hb => by
    have d := dB.stay hb
    exact ⟨d.cell 6 _ rfl, d.cell 4 _ rfl, d.cell 7 _ rfl, d.cell 8 _ rfl, d.cell 9 _ rfl, d.cell 10 _ rfl, d.cell 11 _ rfl, (t1.stay hb).at hs ht 5 _ rfl⟩)
  have FY := Lib.hid (show ∀ y, Below Y.heap.size Y y → ∀ v0 v1 v2 v3 v4 : Value, (((((y.setCell ⟨ta, jb * 5, none⟩ v0).setCell ⟨ta, jb * 5 + 1, none⟩ v1).setCell ⟨ta, jb * 5 + 2, none⟩ v2).setCell ⟨ta, jb * 5 + 3, none⟩ v3).setCell ⟨ta, jb * 5 + 4, none⟩ v4).cell? ⟨w.heap.size, 6, none⟩ = some (ptr g jr) ∧ (((((y.setCell ⟨ta, jb * 5, none⟩ v0).setCell ⟨ta, jb * 5 + 1, none⟩ v1).setCell ⟨ta, jb * 5 + 2, none⟩ v2).setCell ⟨ta, jb * 5 + 3, none⟩ v3).setCell ⟨ta, jb * 5 + 4, none⟩ v4).cell? ⟨w.heap.size, 4, none⟩ = some (.int .i64 (jb : Int)) ∧ (((((y.setCell ⟨ta, jb * 5, none⟩ v0).setCell ⟨ta, jb * 5 + 1, none⟩ v1).setCell ⟨ta, jb * 5 + 2, none⟩ v2).setCell ⟨ta, jb * 5 + 3, none⟩ v3).setCell ⟨ta, jb * 5 + 4, none⟩ v4).cell? ⟨w.heap.size, 7, none⟩ = some (.int .i64 r.t) ∧ (((((y.setCell ⟨ta, jb * 5, none⟩ v0).setCell ⟨ta, jb * 5 + 1, none⟩ v1).setCell ⟨ta, jb * 5 + 2, none⟩ v2).setCell ⟨ta, jb * 5 + 3, none⟩ v3).setCell ⟨ta, jb * 5 + 4, none⟩ v4).cell? ⟨w.heap.size, 8, none⟩ = some (.int .i64 r.v) ∧ (((((y.setCell ⟨ta, jb * 5, none⟩ v0).setCell ⟨ta, jb * 5 + 1, none⟩ v1).setCell ⟨ta, jb * 5 + 2, none⟩ v2).setCell ⟨ta, jb * 5 + 3, none⟩ v3).setCell ⟨ta, jb * 5 + 4, none⟩ v4).cell? ⟨w.heap.size, 9, none⟩ = some (.bool r.r) ∧ (((((y.setCell ⟨ta, jb * 5, none⟩ v0).setCell ⟨ta, jb * 5 + 1, none⟩ v1).setCell ⟨ta, jb * 5 + 2, none⟩ v2).setCell ⟨ta, jb * 5 + 3, none⟩ v3).setCell ⟨ta, jb * 5 + 4, none⟩ v4).cell? ⟨w.heap.size, 10, none⟩ = some (.bool r.w) ∧ (((((y.setCell ⟨ta, jb * 5, none⟩ v0).setCell ⟨ta, jb * 5 + 1, none⟩ v1).setCell ⟨ta, jb * 5 + 2, none⟩ v2).setCell ⟨ta, jb * 5 + 3, none⟩ v3).setCell ⟨ta, jb * 5 + 4, none⟩ v4).cell? ⟨w.heap.size, 11, none⟩ = some (.bool r.k) ∧ (((((y.setCell ⟨ta, jb * 5, none⟩ v0).setCell ⟨ta, jb * 5 + 1, none⟩ v1).setCell ⟨ta, jb * 5 + 2, none⟩ v2).setCell ⟨ta, jb * 5 + 3, none⟩ v3).setCell ⟨ta, jb * 5 + 4, none⟩ v4).cell? ⟨g, jr * 8 + 5, none⟩ = some (.slice (some ⟨ta, 0, none⟩) 4 tcp) from fun y hb v0 v1 v2 v3 v4 => by
    have d := other5 (dB.stay hb) (o := jb * 5) (Box.ne (dB.stay hb) (bx2.stay hb) (fun e => nD (e ▸ tyR hTB))) v0 v1 v2 v3 v4
    have hc := (t1.stay hb).at hs ht 5 _ rfl
    have gb := bxg.stay hb
    have g2 := other5 gb (b := ta) (o := jb * 5) (Box.ne gb (bx2.stay hb) hTB.neT.symm) v0 v1 v2 v3 v4
    refine ⟨d.cell 6 _ rfl, d.cell 4 _ rfl, d.cell 7 _ rfl, d.cell 8 _ rfl, d.cell 9 _ rfl, d.cell 10 _ rfl, d.cell 11 _ rfl, ?_⟩
    rw [g2.at, ← gb.at]
    exact hc)
  have T0 := Lib.hid t1
  have K0 := Lib.hid K
  have HWY := Lib.hid K.1
  have HS := Lib.hid hs
  have HTT := Lib.hid ht
  have HYY := Lib.hid hy
  have HC := Lib.hid hcn
  have hB : Below Y.heap.size Y Y.drew := (Below.refl _ _).drew
  have hB0 : Below Y.heap.size Y Y := Below.refl _ _
  have MK := Lib.hid (and_marks cn hcn)
  clear K hT t1 dB bxg bx2 hs ht hy hTB hb2 hcn hg0 hgl
  go_enter Tryz.func92, Tryz.ntmps92
  go_upto_region 2 with fail
  go_cut [] (fun wx => ∃ y5, Below Y.heap.size Y y5 ∧ wx = set5 y5 ta (jb * 5) (lessR r (mk1 cn) (mk2 cn) (mk4 cn)))
  case first =>
    go_region_held3 (fun y => y.cell? ⟨w.heap.size, 6, none⟩ = some (ptr g jr) ∧ y.cell? ⟨w.heap.size, 4, none⟩ = some (.int .i64 (jb : Int)) ∧ y.cell? ⟨w.heap.size, 7, none⟩ = some (.int .i64 r.t) ∧ y.cell? ⟨w.heap.size, 8, none⟩ = some (.int .i64 r.v) ∧ y.cell? ⟨w.heap.size, 9, none⟩ = some (.bool r.r) ∧ y.cell? ⟨w.heap.size, 10, none⟩ = some (.bool r.w) ∧ y.cell? ⟨w.heap.size, 11, none⟩ = some (.bool r.k) ∧ y.cell? ⟨g, jr * 8 + 5, none⟩ = some (.slice (some ⟨ta, 0, none⟩) 4 tcp))
      (first | with_reducible exact FX.out _ hB | with_reducible exact FX.out _ hB0 | with_reducible exact FY.out _ hB _ _ _ _ _)
      (first | (go_at_call 113; refine (implLess_any r.t r.v r.r r.w r.k _ _ _ _).mono ?_; rintro e y5 ⟨rfl, hb⟩; have hB := hB.trans (hb.mono hB.size); obtain ⟨-, c5, a0, a1, a2, a3, a4, f0, f1, f2, f3, f4⟩ := slot_put (V := y5) T0.out hn HWY.out HS.out HTT.out HYY.out hB r; clear hb c5))
    all_goals
      go_wp2_with fail
      go_meet
      refine ⟨_, hB, ?_⟩
      rw [MK.out.1, MK.out.2.1, MK.out.2.2]
      rfl
  case rest =>
    obtain ⟨y5, hB5, rfl⟩ := hcut
    have HP := Lib.hid (slot_put (V := y5) T0.out hn HWY.out HS.out HTT.out HYY.out hB5 (lessR r (mk1 cn) (mk2 cn) (mk4 cn))).1
    clear hB5
    go_wp2
    go_ret
    exact HP.out
end Go.Proofs.YtbopficnajdaoaaGreatDoor

namespace Go.Proofs.YtbopficnajdaoaaGreatDoor
open Go.RowKit
set_option maxRecDepth 100000
set_option linter.unusedVariables false

abbrev actC : Array Value := #[.nilFunc, .func (.func 90) #[] #[], .func (.func 91) #[] #[], .func (.func 92) #[] #[], .func (.func 93) #[] #[], .func (.func 94) #[] #[], .func (.func 95) #[] #[], .func (.func 96) #[] #[], .func (.func 97) #[] #[], .func (.func 98) #[] #[]]
abbrev actZ : Array Value := #[.nilFunc, .nilFunc, .nilFunc, .nilFunc, .nilFunc, .nilFunc, .nilFunc, .nilFunc, .nilFunc, .nilFunc]
theorem infoAct : (Tryz.prog.info? 123).map (·.size) = some 10 := by kernel_rfl
theorem oneAct : actC.all (·.oneCell') = true := by simp [Value.oneCell']
/-- The function of a kind of call. -/
def fnOf (k : Int) : FuncId := if k = 1 then 90 else if k = 2 then 91 else if k = 3 then 92 else if k = 4 then 93 else if k = 5 then 94 else if k = 6 then 95 else if k = 7 then 96 else if k = 8 then 97 else 98
set_option maxHeartbeats 4000000 in
theorem actOf_any (k : Int) (h : 1 ≤ k ∧ k ≤ 9) (w : World) : Calls Tryz.prog 66 #[.int .i64 k] w fun e w' => e = .returned (.func (.func (fnOf k)) #[] #[]) ∧ Below w.heap.size w w' := by
  have hk : k = 1 ∨ k = 2 ∨ k = 3 ∨ k = 4 ∨ k = 5 ∨ k = 6 ∨ k = 7 ∨ k = 8 ∨ k = 9 := by omega
  clear h
  obtain ⟨Y, hY⟩ : ∃ Y, w.alloc (.cells actZ 123) = Y := ⟨_, rfl⟩
  have BZ := Lib.hid (show Box Y w.heap.size 123 actZ from hY ▸ Box.fresh _ _ _)
  have BY := Lib.hid (show Below w.heap.size w Y from hY ▸ (Below.refl _ _).alloc (Nat.le_refl _) _)
  obtain ⟨V, hV⟩ : ∃ V, Y.setRow w.heap.size actC = V := ⟨_, rfl⟩
  have bV : Box V w.heap.size 123 actC := hV ▸ setRow_box BZ.out _
  have BV := Lib.hid (show Below w.heap.size w V from hV ▸ BY.out.trans (setRow_below (Nat.le_refl _) _))
  have c1 := bV.cell 1 _ rfl
  have c2 := bV.cell 2 _ rfl
  have c3 := bV.cell 3 _ rfl
  have c4 := bV.cell 4 _ rfl
  have c5 := bV.cell 5 _ rfl
  have c6 := bV.cell 6 _ rfl
  have c7 := bV.cell 7 _ rfl
  have c8 := bV.cell 8 _ rfl
  have c9 := bV.cell 9 _ rfl
  clear bV
  rcases hk with rfl | rfl | rfl | rfl | rfl | rfl | rfl | rfl | rfl
  all_goals
    go_enter Tryz.func66, Tryz.ntmps66
    go_wp2_with (refine wpList_store_rowTo rfl 123 (.tmp 3) (.tmp 4) rfl rfl w.heap.size actC rfl rfl 123 actZ BZ.out infoAct rfl oneAct ?_)
    go_ret
    exact ⟨rfl, BV.out⟩
end Go.Proofs.YtbopficnajdaoaaGreatDoor

namespace Go.Proofs.YtbopficnajdaoaaGreatDoor
open Go.RowKit
set_option linter.unusedVariables false

/-! What a call makes of each thing. -/
/-- The right that a call uses. -/
def rOf (l : List T8) (c : C5) : R5 := slotAt (thAt l c.r) c.a
/-- What is fetched. -/
def gotR (l : List T8) (c : C5) : R5 := if (rOf l c).k then lessR (slotAt (thAt l (rOf l c).t) (c.n % 4)) true false false else slotAt (thAt l (rOf l c).t) (c.n % 4)
inductive Stp (l : List T8) (c : C5) (ans : Int) (i : Nat) (x : T8) : T8 → Prop where
  | same : (i : Int) + 1 ≠ c.r → Stp l c ans i x x
  | run (S : List R5) : (i : Int) + 1 = c.r → x.kind = 3 → (S = x.slots ∨ c.k = 3 ∧ S = x.slots.set c.b.toNat (lessR (rOf l c) (mk1 c.n) (mk2 c.n) (mk4 c.n)) ∨ c.k = 4 ∧ chkV l c = 0 ∧ liveB l (rOf l c) = true ∧ S = x.slots.set c.b.toNat (gotR l c)) → Stp l c ans i x { x with num := ans, slots := S }
  | write : (i : Int) + 1 = (rOf l c).t → chkV l c = 0 → c.k = 2 → x.kind = 1 → Stp l c ans i x { x with num := c.n }
  | store : (i : Int) + 1 = (rOf l c).t → chkV l c = 0 → c.k = 5 → x.kind = 2 → Stp l c ans i x { x with slots := x.slots.set (c.n % 4).toNat (slotAt (thAt l c.r) c.b) }
  | send : (i : Int) + 1 = (rOf l c).t → chkV l c = 0 → c.k = 6 → x.kind = 4 → x.queue.length < 3 → Stp l c ans i x { x with queue := x.queue ++ [c.n] }
  | take (q : Int) (qs : List Int) : (i : Int) + 1 = (rOf l c).t → chkV l c = 0 → c.k = 7 → x.kind = 4 → x.queue = q :: qs → Stp l c ans i x { x with queue := qs }
  | renew : (i : Int) + 1 = (rOf l c).t → chkV l c = 0 → c.k = 8 → (x.kind = 1 ∨ x.kind = 2 ∨ x.kind = 4) → x.vers < 5 → Stp l c ans i x { newT x.kind x.sec x.vou 0 with vers := x.vers + 1 }
  | gate : (i : Int) + 1 = (rOf l c).t → chkV l c = 0 → c.k = 9 → x.kind = 5 → Stp l c ans i x { x with num := min (x.num + 1) 99 }
  | page : chkV l c = 0 → c.k = 9 → x.kind = 1 → (i : Int) + 1 = (thAt l (rOf l c).t).to → (thAt l (rOf l c).t).kind = 5 → Stp l c ans i x { x with num := c.n % 2 }
/-- A table, a runner of it, a call that is one. -/
def OkC (l : List T8) (c : C5) : Prop := (tabOk l && isRun l c.r) = true ∧ c.ok = true
theorem OkC.run {l : List T8} {c : C5} (h : OkC l c) : ∃ jr : Nat, ∃ hj : jr < l.length, c.r = (jr : Int) + 1 ∧ thAt l c.r = l[jr] ∧ l[jr].kind = 3 := by
  obtain ⟨h1, -⟩ := h
  simp only [isRun, Bool.and_eq_true] at h1
  obtain ⟨j, hj, hn⟩ := idx_of h1.2.1
  have e := thAt_of hj hn
  exact ⟨j, hj, by omega, e, by have := h1.2.2; rw [e] at this; simpa using this⟩
theorem callV_ok {l : List T8} {c : C5} (h : OkC l c) : callV l c = doV l c := by
  obtain ⟨h1, h2⟩ := h
  simp only [Bool.and_eq_true] at h1
  simp [callV, h1.1, h1.2, h2]
theorem callV_no {l : List T8} {c : C5} (h : ¬ OkC l c) : callV l c = ([], -1) := by
  unfold callV
  rw [if_neg]
  intro h1
  simp only [Bool.and_eq_true] at h1
  exact h ⟨by rw [h1.1, h1.2.1]; rfl, h1.2.2⟩
theorem chk_vals {l : List T8} {c : C5} (h : OkC l c) : chkV l c = 0 ∨ chkV l c = -1 ∨ chkV l c = -2 ∨ chkV l c = -3 := by
  rw [chkV_go h.1 h.2]
  split
  · simp
  · unfold useV
    repeat' split
    all_goals simp
theorem setTh_len (l : List T8) (n : Int) (x : T8) : (setTh l n x).length = l.length := by simp [setTh]
theorem setTh_at {l : List T8} {j : Nat} (x : T8) : setTh l ((j : Int) + 1) x = l.set j x := by
  unfold setTh
  rw [show ((j : Int) + 1 - 1).toNat = j by omega]
theorem far1 {l : List T8} {c : C5} {r : R5} (h : c.k = 1) : farV l c r = (l, (thAt l r.t).num) := by simp [farV, h]
theorem far2 {l : List T8} {c : C5} {r : R5} (h : c.k = 2) : farV l c r = (setTh l r.t { thAt l r.t with num := c.n }, 0) := by simp [farV, h]
theorem far4 {l : List T8} {c : C5} {r : R5} (h : c.k = 4) : farV l c r = (setTh l c.r { thAt l c.r with slots := (thAt l c.r).slots.set c.b.toNat (if r.k then lessR (slotAt (thAt l r.t) (c.n % 4)) true false false else slotAt (thAt l r.t) (c.n % 4)) }, 0) := by simp [farV, h]
theorem far5 {l : List T8} {c : C5} {r : R5} (h : c.k = 5) : farV l c r = (setTh l r.t { thAt l r.t with slots := (thAt l r.t).slots.set (c.n % 4).toNat (slotAt (thAt l c.r) c.b) }, 0) := by simp [farV, h]
theorem far6 {l : List T8} {c : C5} {r : R5} (h : c.k = 6) : farV l c r = if 3 ≤ (thAt l r.t).queue.length then (l, -4) else (setTh l r.t { thAt l r.t with queue := (thAt l r.t).queue ++ [c.n] }, 0) := by simp [farV, h]
theorem far7n {l : List T8} {c : C5} {r : R5} (h : c.k = 7) (hq : (thAt l r.t).queue = []) : farV l c r = (l, -4) := by simp [farV, h, hq]
theorem far7 {l : List T8} {c : C5} {r : R5} (h : c.k = 7) {q : Int} {qs : List Int} (hq : (thAt l r.t).queue = q :: qs) : farV l c r = (setTh l r.t { thAt l r.t with queue := qs }, q) := by simp [farV, h, hq]
theorem far8 {l : List T8} {c : C5} {r : R5} (h : c.k = 8) : farV l c r = if 5 ≤ (thAt l r.t).vers then (l, -4) else (setTh l r.t { newT (thAt l r.t).kind (thAt l r.t).sec (thAt l r.t).vou 0 with vers := (thAt l r.t).vers + 1 }, 0) := by simp [farV, h]
theorem far9 {l : List T8} {c : C5} {r : R5} (h : c.k = 9) : farV l c r = (setTh (setTh l (thAt l r.t).to { thAt l (thAt l r.t).to with num := c.n % 2 }) r.t { thAt l r.t with num := min ((thAt l r.t).num + 1) 99 }, 0) := by simp [farV, h]
theorem far_len (l : List T8) (c : C5) (r : R5) : (farV l c r).1.length = l.length := by
  unfold farV
  repeat' split
  all_goals simp [setTh]
theorem act_len (l : List T8) (c : C5) : (actV l c).1.length = l.length := by
  unfold actV
  repeat' split
  all_goals simp [setTh, far_len]
theorem do_len (l : List T8) (c : C5) : (doV l c).1.length = l.length := by simp [doV, setTh, act_len]
/-- The thing of a right that is not refused outright. -/
theorem obj_of {l : List T8} {c : C5} (h : chkV l c = 0) (h3 : c.k ≠ 3) : ∃ jo : Nat, ∃ hj : jo < l.length, (rOf l c).t = (jo : Int) + 1 ∧ thAt l (rOf l c).t = l[jo] ∧ kindOk c.k l[jo].kind = true := by
  obtain ⟨-, -, hin, hki, -, -⟩ := chk_facts h (by decide) h3
  obtain ⟨j, hj, hn⟩ := idx_of hin
  have e := thAt_of hj hn
  refine ⟨j, hj, ?_, e, ?_⟩
  · unfold rOf; omega
  · rw [← e]; exact hki
theorem gate_to {l : List T8} (hT : tabOk l = true) {j : Nat} (hj : j < l.length) (hk : l[j].kind = 5) : ∃ jt : Nat, ∃ ht : jt < l.length, l[j].to = (jt : Int) + 1 ∧ l[jt].kind = 1 := by
  have h1 := tab_elem' hT hj
  have h2 := okT_to (tab_okT hT hj) hk
  simp only [elemOk, Bool.and_eq_true] at h1
  have h3 := h1.2.1
  simp only [gateOk, hk] at h3
  simp at h3
  obtain ⟨h4, h5⟩ := h3
  refine ⟨(l[j].to - 1).toNat, by omega, by omega, ?_⟩
  have hlt : (l[j].to - 1).toNat < l.length := by omega
  simp only [kindAt, List.getElem?_eq_getElem hlt] at h5
  simpa using h5
theorem getElem_setTh {l : List T8} {j i : Nat} {x : T8} (hi : i < (l.set j x).length) : (l.set j x)[i] = if j = i then x else l[i]'(by simpa using hi) := by rw [List.getElem_set]
theorem kinds_ne {k d : Int} (h : kindOk k d = true) : d ≠ 3 := by
  have := kind_of h
  unfold kindsOf at this
  repeat' split at this
  all_goals simp at this; omega
set_option maxHeartbeats 1000000 in
/-- What a call makes of each thing. -/
theorem do_step {l : List T8} {c : C5} (h : OkC l c) (i : Nat) (hi : i < l.length) : Stp l c (doV l c).2 i l[i] ((doV l c).1[i]'(by rw [do_len]; exact hi)) := by
  obtain ⟨jr, hjr, hcr, hth, hkr⟩ := h.run
  have hT : tabOk l = true := by have := h.1; simp only [Bool.and_eq_true] at this; exact this.1
  -- the runner's number stored behind what was done
  have key : ∀ (A : List T8) (ans : Int) (hA : A.length = l.length), (∀ (k : Nat) (hk : k < l.length), k ≠ jr → Stp l c ans k l[k] (A[k]'(by omega))) →
      (∃ S, A[jr]'(by omega) = { l[jr] with slots := S } ∧ (S = l[jr].slots ∨ c.k = 3 ∧ S = l[jr].slots.set c.b.toNat (lessR (rOf l c) (mk1 c.n) (mk2 c.n) (mk4 c.n)) ∨ c.k = 4 ∧ chkV l c = 0 ∧ liveB l (rOf l c) = true ∧ S = l[jr].slots.set c.b.toNat (gotR l c))) →
      actV l c = (A, ans) → Stp l c (doV l c).2 i l[i] ((doV l c).1[i]'(by rw [do_len]; exact hi)) := by
    intro A ans hA h1 h2 e
    have e1 : (doV l c).1 = A.set jr { thAt A c.r with num := ans } := by
      unfold doV; rw [e, hcr, setTh_at]
    have e2 : (doV l c).2 = ans := by unfold doV; rw [e]
    have e3 : (doV l c).1[i]'(by rw [do_len]; exact hi) = (A.set jr { thAt A c.r with num := ans })[i]'(by simp; omega) := by simp only [e1]
    rw [e3, e2]
    have ha : thAt A c.r = A[jr]'(by omega) := thAt_of (by omega) (by omega)
    rw [ha, getElem_setTh]
    by_cases hij : jr = i
    · subst hij
      rw [if_pos rfl]
      obtain ⟨S, hS, hS2⟩ := h2
      rw [hS]
      exact .run S (by omega) hkr hS2
    · rw [if_neg hij]
      exact h1 i hi (fun e => hij e.symm)
  have other : ∀ (ans : Int) (k : Nat) (hk : k < l.length), k ≠ jr → Stp l c ans k l[k] l[k] := fun ans k hk hne => .same (by omega)
  have noth : ∀ ans, actV l c = (l, ans) → Stp l c (doV l c).2 i l[i] ((doV l c).1[i]'(by rw [do_len]; exact hi)) := fun ans e => key l ans rfl (other ans) ⟨l[jr].slots, rfl, .inl rfl⟩ e
  rcases chk_vals h with h0 | h0 | h0 | h0
  case inr.inl => exact noth (-1) (by unfold actV; rw [h0]; rfl)
  case inr.inr.inl => exact noth (-2) (by unfold actV; rw [h0]; rfl)
  case inr.inr.inr => exact noth (-3) (by unfold actV; rw [h0]; rfl)
  case inl =>
  have ea : actV l c = if c.k = 3 then (setTh l c.r { thAt l c.r with slots := (thAt l c.r).slots.set c.b.toNat (lessR (rOf l c) (mk1 c.n) (mk2 c.n) (mk4 c.n)) }, 0)
      else if liveB l (rOf l c) then ((farV l c (rOf l c)).1, if seesT (thAt l c.r) (thAt l (rOf l c).t) then (farV l c (rOf l c)).2 else 0) else (l, 0) := by
    unfold actV
    rw [h0, if_neg (by decide)]
    rfl
  by_cases h3 : c.k = 3
  · rw [if_pos h3, hth, hcr, setTh_at] at ea
    refine key _ _ (by simp) (fun k hk hne => ?_) ⟨_, by rw [List.getElem_set_self], .inr (.inl ⟨h3, rfl⟩)⟩ ea
    rw [List.getElem_set_ne (fun e => hne e.symm)]
    exact other _ k hk hne
  rw [if_neg h3] at ea
  by_cases hl : liveB l (rOf l c) = true
  case neg => rw [if_neg hl] at ea; exact noth 0 ea
  rw [if_pos hl] at ea
  obtain ⟨jo, hjo, hro, htho, hko⟩ := obj_of h0 h3
  have hne : jo ≠ jr := fun e => by subst e; exact kinds_ne hko hkr
  generalize (if seesT (thAt l c.r) (thAt l (rOf l c).t) then (farV l c (rOf l c)).2 else 0) = ans at ea
  -- one thing is another one
  have one : ∀ y : T8, (farV l c (rOf l c)).1 = l.set jo y → Stp l c ans jo l[jo] y → Stp l c (doV l c).2 i l[i] ((doV l c).1[i]'(by rw [do_len]; exact hi)) := by
    intro y e hy
    rw [e] at ea
    refine key _ _ (by simp) (fun k hk hkn => ?_) ⟨l[jr].slots, by rw [List.getElem_set_ne hne], .inl rfl⟩ ea
    rw [getElem_setTh]
    by_cases hkj : jo = k
    · subst hkj; rw [if_pos rfl]; exact hy
    · rw [if_neg hkj]; exact other _ k hk hkn
  have none' : (farV l c (rOf l c)).1 = l → Stp l c (doV l c).2 i l[i] ((doV l c).1[i]'(by rw [do_len]; exact hi)) := fun e => noth ans (by rw [ea, e])
  have hk9 := (ok_k h.2).1
  have hkk := kind_of hko
  rcases eight hk9 h3 with hk | hk | hk | hk | hk | hk | hk | hk
  · exact none' (by rw [far1 hk])
  · refine one _ (by rw [far2 hk, htho, hro, setTh_at]) ?_
    exact .write (by omega) h0 hk (by simpa [kindsOf, hk] using hkk)
  · have e : (farV l c (rOf l c)).1 = l.set jr { l[jr] with slots := l[jr].slots.set c.b.toNat (gotR l c) } := by
      rw [far4 hk, hth, hcr, setTh_at]
      rfl
    rw [e] at ea
    refine key _ _ (by simp) (fun k hk hkn => ?_) ⟨_, by rw [List.getElem_set_self], .inr (.inr ⟨hk, h0, hl, rfl⟩)⟩ ea
    rw [List.getElem_set_ne (fun e => hkn e.symm)]
    exact other _ k hk hkn
  · refine one _ (by rw [far5 hk, htho, hro, setTh_at]) ?_
    exact .store (by omega) h0 hk (by simpa [kindsOf, hk] using hkk)
  · by_cases hq : 3 ≤ l[jo].queue.length
    · exact none' (by rw [far6 hk, htho, if_pos hq])
    · refine one { l[jo] with queue := l[jo].queue ++ [c.n] } (by rw [far6 hk, htho, if_neg hq, hro, setTh_at]) ?_
      exact .send (by omega) h0 hk (by simpa [kindsOf, hk] using hkk) (by omega)
  · cases hq : l[jo].queue with
    | nil => exact none' (by rw [far7n hk (by rw [htho]; exact hq)])
    | cons q qs =>
      refine one { l[jo] with queue := qs } (by rw [far7 hk (by rw [htho]; exact hq), htho, hro, setTh_at]) ?_
      exact .take q qs (by omega) h0 hk (by simpa [kindsOf, hk] using hkk) hq
  · by_cases hv : 5 ≤ l[jo].vers
    · exact none' (by rw [far8 hk, htho, if_pos hv])
    · refine one { newT l[jo].kind l[jo].sec l[jo].vou 0 with vers := l[jo].vers + 1 } (by rw [far8 hk, htho, if_neg hv, hro, setTh_at]) ?_
      exact .renew (by omega) h0 hk (by simpa [kindsOf, hk] using hkk) (by omega)
  · have hko5 : l[jo].kind = 5 := by simpa [kindsOf, hk] using hkk
    obtain ⟨jt, hjt, hto, hkt⟩ := gate_to hT hjo hko5
    have e : (farV l c (rOf l c)).1 = (l.set jt { l[jt] with num := c.n % 2 }).set jo { l[jo] with num := min (l[jo].num + 1) 99 } := by
      rw [far9 hk, htho, hto, hro, setTh_at, setTh_at, thAt_of hjt (show (jt : Int) + 1 - 1 = jt by omega)]
    rw [e] at ea
    have hjtr : jt ≠ jr := fun e => by subst e; omega
    refine key _ _ (by simp) (fun k hk' hkn => ?_) ⟨l[jr].slots, by rw [List.getElem_set_ne hne, List.getElem_set_ne hjtr], .inl rfl⟩ ea
    rw [getElem_setTh]
    by_cases hkj : jo = k
    · subst hkj; rw [if_pos rfl]; exact .gate (by omega) h0 hk hko5
    · rw [if_neg hkj, getElem_setTh]
      by_cases hkt' : jt = k
      · subst hkt'; rw [if_pos rfl]; exact .page h0 hk hkt (by rw [htho, hto]) (by rw [htho]; exact hko5)
      · rw [if_neg hkt']; exact other _ k hk' hkn
theorem do_ref {l : List T8} {c : C5} (h : OkC l c) (h0 : chkV l c ≠ 0) : doV l c = (setTh l c.r { thAt l c.r with num := chkV l c }, chkV l c) := by
  have hn : chkV l c < 0 := by rcases chk_vals h with e | e | e | e <;> omega
  have : actV l c = (l, chkV l c) := by unfold actV; rw [if_pos hn]
  unfold doV; rw [this]
theorem act_copy {l : List T8} {c : C5} (h : OkC l c) (h3 : c.k = 3) : actV l c = (setTh l c.r { thAt l c.r with slots := (thAt l c.r).slots.set c.b.toNat (lessR (rOf l c) (mk1 c.n) (mk2 c.n) (mk4 c.n)) }, 0) := by
  have h0 : chkV l c = 0 := by rw [chkV_go h.1 h.2, if_pos h3]
  unfold actV; rw [h0, if_neg (by decide), if_pos h3]; rfl
theorem act_dead {l : List T8} {c : C5} (h0 : chkV l c = 0) (h3 : c.k ≠ 3) (hl : liveB l (rOf l c) = false) : actV l c = (l, 0) := by
  unfold actV; rw [h0, if_neg (by decide), if_neg h3, if_neg (by unfold rOf at hl; rw [hl]; decide)]
theorem act_far {l : List T8} {c : C5} (h0 : chkV l c = 0) (h3 : c.k ≠ 3) (hl : liveB l (rOf l c) = true) : actV l c = ((farV l c (rOf l c)).1, if seesT (thAt l c.r) (thAt l (rOf l c).t) then (farV l c (rOf l c)).2 else 0) := by
  unfold actV; rw [h0, if_neg (by decide), if_neg h3, if_pos (by unfold rOf at hl; exact hl)]; rfl
theorem do_snd (l : List T8) (c : C5) : (doV l c).2 = (actV l c).2 := rfl
theorem okT_num {x : T8} (h : okT x = true) : -4 ≤ x.num ∧ x.num ≤ 99 := by
  simp only [okT, okT2, Bool.and_eq_true] at h
  have h2 : leastN x ≤ x.num ∧ x.num ≤ 99 := by simpa [inR] using h.2.1.1
  unfold leastN at h2
  split at h2 <;> omega
theorem okT_queue {x : T8} (h : okT x = true) : x.queue.length ≤ 3 ∧ ∀ q ∈ x.queue, 0 ≤ q ∧ q ≤ 99 := by
  simp only [okT, okT1, Bool.and_eq_true] at h
  refine ⟨?_, fun q hq => ?_⟩
  · have := h.1.2.2.2; simp at this; omega
  · have := List.all_eq_true.1 h.2.2.1 q hq
    simpa [inR] using this
/-- What a call answers. -/
inductive Ans (l : List T8) (c : C5) : Int → Prop where
  | ref : chkV l c < 0 → Ans l c (chkV l c)
  | copy : c.k = 3 → Ans l c 0
  | dead : chkV l c = 0 → c.k ≠ 3 → liveB l (rOf l c) = false → Ans l c 0
  | blind : chkV l c = 0 → c.k ≠ 3 → liveB l (rOf l c) = true → seesT (thAt l c.r) (thAt l (rOf l c).t) = false → Ans l c 0
  | plain : chkV l c = 0 → liveB l (rOf l c) = true → seesT (thAt l c.r) (thAt l (rOf l c).t) = true → (c.k = 2 ∨ c.k = 4 ∨ c.k = 5 ∨ c.k = 9) → Ans l c 0
  | read : chkV l c = 0 → liveB l (rOf l c) = true → seesT (thAt l c.r) (thAt l (rOf l c).t) = true → c.k = 1 → Ans l c (thAt l (rOf l c).t).num
  | full : chkV l c = 0 → liveB l (rOf l c) = true → seesT (thAt l c.r) (thAt l (rOf l c).t) = true → (c.k = 6 ∧ 3 ≤ (thAt l (rOf l c).t).queue.length ∨ c.k = 7 ∧ (thAt l (rOf l c).t).queue = [] ∨ c.k = 8 ∧ 5 ≤ (thAt l (rOf l c).t).vers) → Ans l c (-4)
  | sent : chkV l c = 0 → liveB l (rOf l c) = true → seesT (thAt l c.r) (thAt l (rOf l c).t) = true → c.k = 6 → (thAt l (rOf l c).t).queue.length < 3 → Ans l c 0
  | took (q : Int) (qs : List Int) : chkV l c = 0 → liveB l (rOf l c) = true → seesT (thAt l c.r) (thAt l (rOf l c).t) = true → c.k = 7 → (thAt l (rOf l c).t).queue = q :: qs → Ans l c q
  | renewed : chkV l c = 0 → liveB l (rOf l c) = true → seesT (thAt l c.r) (thAt l (rOf l c).t) = true → c.k = 8 → (thAt l (rOf l c).t).vers < 5 → Ans l c 0
theorem do_ans {l : List T8} {c : C5} (h : OkC l c) : Ans l c (doV l c).2 := by
  by_cases h0 : chkV l c = 0
  case neg =>
    rw [do_ref h h0]
    exact .ref (by rcases chk_vals h with e | e | e | e <;> omega)
  by_cases h3 : c.k = 3
  · rw [do_snd, act_copy h h3]; exact .copy h3
  cases hl : liveB l (rOf l c) with
  | false => rw [do_snd, act_dead h0 h3 hl]; exact .dead h0 h3 hl
  | true =>
    rw [do_snd, act_far h0 h3 hl]
    cases hs : seesT (thAt l c.r) (thAt l (rOf l c).t) with
    | false => exact .blind h0 h3 hl hs
    | true =>
      simp only [if_true]
      rcases eight (ok_k h.2).1 h3 with hk | hk | hk | hk | hk | hk | hk | hk
      · rw [far1 hk]; exact .read h0 hl hs hk
      · rw [far2 hk]; exact .plain h0 hl hs (by omega)
      · rw [far4 hk]; exact .plain h0 hl hs (by omega)
      · rw [far5 hk]; exact .plain h0 hl hs (by omega)
      · rw [far6 hk]
        split
        · rename_i hq; exact .full h0 hl hs (.inl ⟨hk, hq⟩)
        · rename_i hq; exact .sent h0 hl hs hk (by omega)
      · cases hq : (thAt l (rOf l c).t).queue with
        | nil => rw [far7n hk hq]; exact .full h0 hl hs (.inr (.inl ⟨hk, hq⟩))
        | cons q qs => rw [far7 hk hq]; exact .took q qs h0 hl hs hk hq
      · rw [far8 hk]
        split
        · rename_i hq; exact .full h0 hl hs (.inr (.inr ⟨hk, hq⟩))
        · rename_i hq; exact .renewed h0 hl hs hk (by omega)
      · rw [far9 hk]; exact .plain h0 hl hs (by omega)
theorem OkC.tab {l : List T8} {c : C5} (h : OkC l c) : tabOk l = true := by have := h.1; simp only [Bool.and_eq_true] at this; exact this.1
theorem ans_bd {l : List T8} {c : C5} (h : OkC l c) : -4 ≤ (doV l c).2 ∧ (doV l c).2 ≤ 99 := by
  have ho : ∀ h0 : chkV l c = 0, c.k ≠ 3 → okT (thAt l (rOf l c).t) = true := fun h0 h3 => by
    obtain ⟨jo, hjo, -, e, -⟩ := obj_of h0 h3
    rw [e]; exact tab_okT h.tab hjo
  have ha := do_ans h
  generalize (doV l c).2 = ans at ha ⊢
  cases ha with
  | ref h0 => rcases chk_vals h with e | e | e | e <;> omega
  | read h0 hl hs hk => exact okT_num (ho h0 (by omega))
  | took _ qs h0 hl hs hk hq =>
    have := (okT_queue (ho h0 (by omega))).2 ans (by rw [hq]; exact List.mem_cons_self)
    omega
  | _ => omega
theorem lessR_ok {r : R5} (h : r.ok = true) (a b c : Bool) : (lessR r a b c).ok = true := by
  unfold R5.ok at h ⊢
  by_cases ht : r.t = 0
  · simp [okR, lessR, lsG, lsA, ht]
  · have hg : lsG r.t r.v r.r r.w r.k = true := by simp [lsG, h, ht]
    simp only [lessR, hg, lsA, if_true, Bool.true_and]
    simp only [okR, ht, if_false, Bool.and_eq_true] at h ⊢
    refine ⟨h.1, h.2.1, ?_⟩
    have := h.2.2
    revert this
    cases r.k <;> cases r.w <;> cases b <;> cases c <;> decide
theorem lessR_in {l : List T8} {r : R5} (h : r.ok = true) (hi : rightIn l r = true) (a b c : Bool) : rightIn l (lessR r a b c) = true := by
  unfold R5.ok at h
  by_cases ht : r.t = 0
  · simp [rightIn, lessR, lsG, lsA, ht]
  · simpa [rightIn, lessR, lsG, lsA, h, ht] using hi
theorem slot_in {l : List T8} (hT : tabOk l = true) {j : Nat} (hj : j < l.length) (a : Int) : (slotAt l[j] a).ok = true ∧ rightIn l (slotAt l[j] a) = true := by
  by_cases ha : a.toNat < l[j].slots.length
  · have e : slotAt l[j] a = l[j].slots[a.toNat] := by simp [slotAt, List.getElem?_eq_getElem ha]
    rw [e]
    refine ⟨okT_right (tab_okT hT hj) ha, ?_⟩
    have := tab_elem' hT hj
    simp only [elemOk, Bool.and_eq_true] at this
    exact List.all_eq_true.1 this.2.2 _ (List.getElem_mem ha)
  · have e : slotAt l[j] a = ⟨0, 0, false, false, false⟩ := by simp [slotAt, List.getElem?_eq_none (Nat.le_of_not_lt ha)]
    rw [e]
    refine ⟨by decide, ?_⟩
    simp [rightIn]
theorem rOf_in {l : List T8} {c : C5} (h : OkC l c) : (rOf l c).ok = true ∧ rightIn l (rOf l c) = true := by
  obtain ⟨jr, hjr, -, e, -⟩ := h.run
  unfold rOf; rw [e]; exact slot_in h.tab hjr _
theorem gotR_in {l : List T8} {c : C5} (h : OkC l c) (h0 : chkV l c = 0) (h3 : c.k ≠ 3) : (gotR l c).ok = true ∧ rightIn l (gotR l c) = true := by
  obtain ⟨jo, hjo, -, e, -⟩ := obj_of h0 h3
  have := slot_in h.tab hjo (c.n % 4)
  unfold gotR
  rw [e]
  split
  · exact ⟨lessR_ok this.1 _ _ _, lessR_in this.1 this.2 _ _ _⟩
  · exact this
theorem all_set {f : R5 → Bool} {s : List R5} (h : s.all f = true) (k : Nat) {r : R5} (hr : f r = true) : (s.set k r).all f = true := by
  rw [List.all_eq_true] at h ⊢
  intro x hx
  rcases List.mem_or_eq_of_mem_set hx with hx | rfl
  · exact h x hx
  · exact hr
theorem ok_slots {x : T8} (h : okT x = true) : x.slots.all R5.ok = true := by simp only [okT, Bool.and_eq_true] at h; exact h.2.2.2.1
theorem okT_with {x : T8} (h : okT x = true) {S : List R5} (hs : S.length = x.slots.length) (ha : S.all R5.ok = true) : okT { x with slots := S } = true := by
  simp only [okT, okT1, okT2, okT3, okT4, leastN, Bool.and_eq_true] at h ⊢
  rw [hs]
  exact ⟨h.1, h.2.1, h.2.2.1, ha, h.2.2.2.2⟩
theorem okT_run {x : T8} (h : okT x = true) (hk : x.kind = 3) {n : Int} (hn : -4 ≤ n ∧ n ≤ 99) : okT { x with num := n } = true := by
  simp only [okT, okT1, okT2, okT3, okT4, leastN, hasS, hk, Bool.and_eq_true, inR, decide_eq_true_eq] at h ⊢
  simp at h ⊢
  simp [h, hn]
  exact h.2.2.2.1
theorem okT_page {x : T8} (h : okT x = true) (hk : x.kind = 1) {n : Int} (hn : 0 ≤ n ∧ n ≤ 99) : okT { x with num := n } = true := ok_page h hk hn (okT_vers h)
theorem okT_gate {x : T8} (h : okT x = true) (hk : x.kind = 5) {n : Int} (hn : 0 ≤ n ∧ n ≤ 99) : okT { x with num := n } = true := by
  simp only [okT, okT1, okT2, okT3, okT4, leastN, hasS, hk, Bool.and_eq_true, inR, decide_eq_true_eq] at h ⊢
  simp at h ⊢
  simp [h, hn]
theorem okT_num0 {x : T8} (h : okT x = true) (hk : x.kind ≠ 3) : 0 ≤ x.num := by
  simp only [okT, okT2, Bool.and_eq_true] at h
  have h2 : leastN x ≤ x.num ∧ x.num ≤ 99 := by simpa [inR] using h.2.1.1
  unfold leastN at h2
  rw [if_neg hk] at h2
  omega
theorem okT_pipe {x : T8} (h : okT x = true) (hk : x.kind = 4) {q : List Int} (hq : q.length ≤ 3) (ha : ∀ z ∈ q, 0 ≤ z ∧ z ≤ 99) : okT { x with queue := q } = true := by
  have hall : q.all (inR · 0 99) = true := List.all_eq_true.2 fun z hz => by simpa [inR] using ha z hz
  simp only [okT, okT1, okT2, okT3, okT4, leastN, hasS, hk, Bool.and_eq_true, inR, decide_eq_true_eq] at h hall ⊢
  simp at h ⊢
  simp [h]
  exact ⟨by omega, fun z hz => ha z hz⟩
theorem okT_new {x : T8} (h : okT x = true) (hk : x.kind = 1 ∨ x.kind = 2 ∨ x.kind = 4) {v : Int} (hv : 0 ≤ v ∧ v ≤ 5) : okT { newT x.kind x.sec x.vou 0 with vers := v } = true := by
  have hl := okT_lab h
  rcases hk with hk | hk | hk <;> simp [okT, okT1, okT2, okT3, okT4, leastN, hasS, newT, hk, inR, hl, hv, R5.ok, okR]
theorem okT_to0 {x : T8} (h : okT x = true) (hk : x.kind ≠ 5) : x.to = 0 := by
  simp only [okT, okT4, Bool.and_eq_true] at h
  have := h.2.2.2.2.2.2
  simp [hk] at this
  exact this
theorem C5.bd {c : C5} (h : c.ok = true) : (1 ≤ c.k ∧ c.k ≤ 9) ∧ (1 ≤ c.r ∧ c.r ≤ 8) ∧ (0 ≤ c.a ∧ c.a ≤ 3) ∧ (0 ≤ c.b ∧ c.b ≤ 3) ∧ (0 ≤ c.n ∧ c.n ≤ 99) := by
  simpa [C5.ok, inR, and_assoc] using h
theorem slots_in {l : List T8} (hT : tabOk l = true) {j : Nat} (hj : j < l.length) : l[j].slots.all (rightIn l) = true := by
  have := tab_elem' hT hj
  simp only [elemOk, Bool.and_eq_true] at this
  exact this.2.2
set_option maxHeartbeats 1000000 in
/-- Each thing is one still. -/
theorem stp_ok {l : List T8} {c : C5} (h : OkC l c) {i : Nat} (hi : i < l.length) {ans : Int} (ha : -4 ≤ ans ∧ ans ≤ 99) {y : T8} (hs : Stp l c ans i l[i] y) :
    okT y = true ∧ y.kind = l[i].kind ∧ y.sec = l[i].sec ∧ y.vou = l[i].vou ∧ y.to = l[i].to ∧ l[i].vers ≤ y.vers ∧ y.slots.all (rightIn l) = true ∧ y.slots.length = l[i].slots.length := by
  have hT := h.tab
  have ho := tab_okT hT hi
  have hx := slots_in hT hi
  have hc := C5.bd h.2
  generalize hX : l[i] = x at *
  cases hs with
  | same hne => exact ⟨ho, rfl, rfl, rfl, rfl, Int.le_refl _, hx, rfl⟩
  | run S hr hk hS =>
    have key : S.all R5.ok = true ∧ S.all (rightIn l) = true ∧ S.length = x.slots.length := by
      rcases hS with rfl | ⟨h3, rfl⟩ | ⟨h4, h0, -, rfl⟩
      · exact ⟨ok_slots ho, hx, rfl⟩
      · have := rOf_in h
        exact ⟨all_set (ok_slots ho) _ (lessR_ok this.1 _ _ _), all_set hx _ (lessR_in this.1 this.2 _ _ _), by simp⟩
      · have := gotR_in h h0 (by omega)
        exact ⟨all_set (ok_slots ho) _ this.1, all_set hx _ this.2, by simp⟩
    have o1 := okT_with ho key.2.2 key.1
    exact ⟨okT_run (x := { x with slots := S }) o1 hk ha, rfl, rfl, rfl, rfl, Int.le_refl _, key.2.1, key.2.2⟩
  | write hr h0 hk hd => exact ⟨okT_page ho hd (by omega), rfl, rfl, rfl, rfl, Int.le_refl _, hx, rfl⟩
  | store hr h0 hk hd =>
    obtain ⟨jr, hjr, -, e, -⟩ := h.run
    have := slot_in hT hjr c.b
    rw [e]
    exact ⟨okT_with ho (by simp) (all_set (ok_slots ho) _ this.1), rfl, rfl, rfl, rfl, Int.le_refl _, all_set hx _ this.2, by simp⟩
  | send hr h0 hk hd hq =>
    refine ⟨okT_pipe ho hd (by simp; omega) (fun z hz => ?_), rfl, rfl, rfl, rfl, Int.le_refl _, hx, rfl⟩
    rcases List.mem_append.1 hz with hz | hz
    · exact (okT_queue ho).2 z hz
    · simp at hz; omega
  | take q qs hr h0 hk hd hq =>
    have h1 := okT_queue ho
    rw [hq] at h1
    refine ⟨okT_pipe ho hd (by have := h1.1; simp at this; omega) (fun z hz => h1.2 z (List.mem_cons_of_mem _ hz)), rfl, rfl, rfl, rfl, Int.le_refl _, hx, rfl⟩
  | renew hr h0 hk hd hv =>
    have hv0 := okT_vers ho
    refine ⟨okT_new ho hd (by omega), rfl, rfl, rfl, ?_, by dsimp only [newT]; omega, ?_, ?_⟩
    · rw [okT_to0 ho (by omega)]; rfl
    · rcases hd with hd | hd | hd <;> simp [newT, hasS, hd, rightIn]
    · have h3 : okT3 x = true := by simp only [okT, Bool.and_eq_true] at ho; exact ho.2.2.2.2.1
      rcases hd with hd | hd | hd <;> simp [okT3, hasS, hd] at h3 <;> simp [newT, hasS, hd, h3] <;> omega
  | gate hr h0 hk hd =>
    have h1 := okT_num ho
    have h2 := okT_num0 ho (by omega)
    exact ⟨okT_gate ho hd (by omega), rfl, rfl, rfl, rfl, Int.le_refl _, hx, rfl⟩
  | page h0 hk hd ht hg => exact ⟨okT_page ho hd (by omega), rfl, rfl, rfl, rfl, Int.le_refl _, hx, rfl⟩
theorem tab_map {l l' : List T8} (hT : tabOk l = true) (hl : l'.length = l.length) (h : ∀ (i : Nat) (hi : i < l.length), okT (l'[i]'(by omega)) = true ∧ (l'[i]'(by omega)).kind = l[i].kind ∧ (l'[i]'(by omega)).to = l[i].to ∧ l[i].vers ≤ (l'[i]'(by omega)).vers ∧ (l'[i]'(by omega)).slots.all (rightIn l) = true) : tabOk l' = true := by
  have hv : ∀ n, versAt l n ≤ versAt l' n := fun n => by
    unfold versAt
    by_cases hn : n.toNat < l.length
    · rw [List.getElem?_eq_getElem hn, List.getElem?_eq_getElem (by omega)]
      exact (h _ hn).2.2.2.1
    · rw [List.getElem?_eq_none (by omega), List.getElem?_eq_none (by omega)]; exact Int.le_refl _
  have hkd : ∀ n, kindAt l' n = kindAt l n := fun n => by
    unfold kindAt
    by_cases hn : n.toNat < l.length
    · rw [List.getElem?_eq_getElem hn, List.getElem?_eq_getElem (by omega)]
      exact (h _ hn).2.1
    · rw [List.getElem?_eq_none (by omega), List.getElem?_eq_none (by omega)]
  have hr : ∀ r : R5, rightIn l r = true → rightIn l' r = true := fun r h => by
    unfold rightIn at h ⊢
    rw [hl]
    have := hv (r.t - 1)
    simp only [Bool.not_eq_true', Bool.or_eq_false_iff, Bool.and_eq_false_iff, decide_eq_false_iff_not] at h ⊢
    refine ⟨h.1, ?_⟩
    rcases h.2 with h2 | h2
    · exact .inl h2
    · exact .inr (by omega)
  have hL : inR l.length 1 8 = true := by simp only [tabOk, Bool.and_eq_true] at hT; exact hT.2
  unfold tabOk
  rw [hl, hL, Bool.and_true, List.all_eq_true]
  intro y hy
  obtain ⟨i, hi, rfl⟩ := List.mem_iff_getElem.1 hy
  obtain ⟨h1, h2, h3, -, h5⟩ := h i (by omega)
  have he := tab_elem' hT (i := i) (by omega)
  simp only [elemOk, Bool.and_eq_true] at he ⊢
  refine ⟨h1, ?_, ?_⟩
  · have := he.2.1
    unfold gateOk at this ⊢
    rw [hkd, hl, h2, h3]; exact this
  · rw [List.all_eq_true] at h5 ⊢
    exact fun r hm => hr r (h5 r hm)
/-- Whatever is called, a table stays one. -/
theorem do_tab {l : List T8} {c : C5} (h : OkC l c) : tabOk (doV l c).1 = true :=
  tab_map h.tab (do_len l c) fun i hi => by
    have := stp_ok h hi (ans_bd h) (do_step h i hi)
    exact ⟨this.1, this.2.1, this.2.2.2.2.1, this.2.2.2.2.2.1, this.2.2.2.2.2.2.1⟩
theorem do_same {l : List T8} {c : C5} (h : OkC l c) {i : Nat} (hi : i < l.length) : ((doV l c).1[i]'(by rw [do_len]; exact hi)).kind = l[i].kind ∧ ((doV l c).1[i]'(by rw [do_len]; exact hi)).sec = l[i].sec ∧ ((doV l c).1[i]'(by rw [do_len]; exact hi)).vou = l[i].vou ∧ ((doV l c).1[i]'(by rw [do_len]; exact hi)).to = l[i].to ∧ l[i].vers ≤ ((doV l c).1[i]'(by rw [do_len]; exact hi)).vers := by
  have := stp_ok h hi (ans_bd h) (do_step h i hi)
  exact ⟨this.2.1, this.2.2.1, this.2.2.2.1, this.2.2.2.2.1, this.2.2.2.2.2.1⟩
theorem do_num {l : List T8} {c : C5} (h : OkC l c) {jr : Nat} (hj : jr < l.length) (hr : c.r = (jr : Int) + 1) : ((doV l c).1[jr]'(by rw [do_len]; exact hj)).num = (doV l c).2 := by
  have := do_step h jr hj
  generalize (doV l c).1[jr]'(by rw [do_len]; exact hj) = y at this
  have hk3 : l[jr].kind = 3 := by
    obtain ⟨j, hj', e, -, hk⟩ := h.run
    have : j = jr := by omega
    subst this; exact hk
  cases this with
  | same hne => omega
  | run S _ _ _ => rfl
  | page _ _ hk => omega
  | renew _ _ _ hk => omega
  | _ => omega
theorem do_first {l : List T8} {c : C5} {jr : Nat} (hj : jr < l.length) (hr : c.r = (jr : Int) + 1) : (doV l c).1 = (actV l c).1.set jr { (actV l c).1[jr]'(by rw [act_len]; exact hj) with num := (actV l c).2 } := by
  unfold doV
  rw [hr, setTh_at]
  congr 1
  rw [thAt_of (j := jr) (by rw [act_len]; exact hj) (by omega)]
theorem run_at {l : List T8} {c : C5} (h : OkC l c) {jr : Nat} (hj : jr < l.length) (hr : c.r = (jr : Int) + 1) : thAt l c.r = l[jr] ∧ l[jr].kind = 3 := by
  obtain ⟨j, hj', e, e2, hk⟩ := h.run
  have : j = jr := by omega
  subst this; exact ⟨e2, hk⟩
/-- Where nothing was done but for the answer. -/
theorem do_back {l : List T8} {c : C5} (hA : (actV l c).1 = l) {jr : Nat} (hj : jr < l.length) (hr : c.r = (jr : Int) + 1) : (doV l c).1.set jr { (doV l c).1[jr]'(by rw [do_len]; exact hj) with num := l[jr].num } = l := by
  have e := do_first (c := c) hj hr
  have e2 : (doV l c).1 = l.set jr { l[jr] with num := (actV l c).2 } := by
    rw [e]; simp only [hA]
  have e3 : (doV l c).1[jr]'(by rw [do_len]; exact hj) = { l[jr] with num := (actV l c).2 } := by simp only [e2]; rw [List.getElem_set_self]
  rw [e3, e2, List.set_set]
  exact List.set_getElem_self hj
theorem do_unref {l : List T8} {c : C5} (h : OkC l c) (h0 : chkV l c ≠ 0) : (actV l c).1 = l := by
  have hn : chkV l c < 0 := by rcases chk_vals h with e | e | e | e <;> omega
  unfold actV; rw [if_pos hn]
theorem ans_ref {l : List T8} {c : C5} (h : OkC l c) (h0 : chkV l c ≠ 0) : (doV l c).2 = chkV l c := by rw [do_ref h h0]
theorem chk_neg {l : List T8} {c : C5} (h : OkC l c) (h0 : chkV l c ≠ 0) : chkV l c < 0 := by rcases chk_vals h with e | e | e | e <;> omega
theorem obj_ok {l : List T8} {c : C5} (h : OkC l c) (h0 : chkV l c = 0) (h3 : c.k ≠ 3) : okT (thAt l (rOf l c).t) = true ∧ kindOk c.k (thAt l (rOf l c).t).kind = true := by
  obtain ⟨jo, hjo, -, e, hk⟩ := obj_of h0 h3
  rw [e]; exact ⟨tab_okT h.tab hjo, hk⟩
theorem ans_pass {l : List T8} {c : C5} (h : OkC l c) (h0 : chkV l c = 0) : 0 ≤ (doV l c).2 ∨ (doV l c).2 = -4 := by
  have ha := do_ans h
  generalize (doV l c).2 = ans at ha ⊢
  cases ha with
  | ref h1 => omega
  | read _ hl hs hk =>
    have := obj_ok h h0 (by omega)
    left; exact okT_num0 this.1 (kinds_ne this.2)
  | took _ qs _ hl hs hk hq =>
    have := obj_ok h h0 (by omega)
    left; exact ((okT_queue this.1).2 ans (by rw [hq]; exact List.mem_cons_self)).1
  | _ => omega
theorem pass_of {l : List T8} {c : C5} (h : OkC l c) (ha : 0 ≤ (doV l c).2) : chkV l c = 0 := by
  by_cases h0 : chkV l c = 0
  · exact h0
  · have := ans_ref h h0
    have := chk_neg h h0
    omega
/-- Who reads sees, and what is seen lives. -/
theorem sees_live {l : List T8} {c : C5} (h0 : chkV l c = 0) (h3 : c.k ≠ 3) (hR : needR c.k = true) : seesT (thAt l c.r) (thAt l (rOf l c).t) = true ∧ liveB l (rOf l c) = true := by
  obtain ⟨-, -, -, -, -, hv⟩ := chk_facts h0 (by decide) h3
  change (0 : Int) = if ((!needR c.k || seesT (thAt l c.r) (thAt l (rOf l c).t)) && (!needW c.k || touT (thAt l c.r) (thAt l (rOf l c).t))) = false then -2 else if (seesT (thAt l c.r) (thAt l (rOf l c).t) && !liveB l (rOf l c)) then -3 else 0 at hv
  cases hs : seesT (thAt l c.r) (thAt l (rOf l c).t) with
  | false => rw [hs, hR] at hv; simp at hv
  | true =>
    refine ⟨rfl, ?_⟩
    cases hl : liveB l (rOf l c) with
    | true => rfl
    | false =>
      rw [hs, hl] at hv
      split at hv
      · omega
      · simp at hv
theorem do_read {l : List T8} {c : C5} (h : OkC l c) (hk : c.k = 1) (ha : 0 ≤ (doV l c).2) : (actV l c).1 = l ∧ (doV l c).2 = (thAt l (rOf l c).t).num := by
  have h0 := pass_of h ha
  have h3 : c.k ≠ 3 := by omega
  obtain ⟨hs, hl⟩ := sees_live h0 h3 (by rw [hk]; rfl)
  have e := act_far h0 h3 hl
  rw [far1 hk, hs] at e
  rw [do_snd, e]; exact ⟨rfl, rfl⟩
theorem liveB_tab {l : List T8} {c : C5} (h : OkC l c) : tabLive l (rOf l c) = liveB l (rOf l c) := by simp [tabLive, h.tab, (rOf_in h).1]
theorem do_obj {l : List T8} {c : C5} (h : OkC l c) {jr jo : Nat} (hj : jr < l.length) (hr : c.r = (jr : Int) + 1) (hjo : jo < l.length) (hne : jo ≠ jr) : (doV l c).1[jo]'(by rw [do_len]; exact hjo) = (actV l c).1[jo]'(by rw [act_len]; exact hjo) := by
  have e := do_first (c := c) hj hr
  simp only [e]
  rw [List.getElem_set_ne (fun e => hne e.symm)]
theorem do_run {l : List T8} {c : C5} {jr : Nat} (hj : jr < l.length) (hr : c.r = (jr : Int) + 1) : (doV l c).1[jr]'(by rw [do_len]; exact hj) = { (actV l c).1[jr]'(by rw [act_len]; exact hj) with num := (doV l c).2 } := by
  have e := do_first (c := c) hj hr
  simp only [e]
  rw [List.getElem_set_self]; rfl
theorem get_of {l m : List T8} (e : l = m) {i : Nat} (hi : i < l.length) : l[i] = m[i]'(by rw [← e]; exact hi) := by subst e; rfl
/-- What is written is there. -/
theorem do_write {l : List T8} {c : C5} (h : OkC l c) (hk : c.k = 2) (ha : 0 ≤ (doV l c).2) {jo : Nat} (hjo : jo < l.length) (ho : (rOf l c).t = (jo : Int) + 1) :
    (doV l c).2 = 0 ∧ (doV l c).1[jo]'(by rw [do_len]; exact hjo) = if liveB l (rOf l c) then { l[jo] with num := c.n } else l[jo] := by
  have h0 := pass_of h ha
  have h3 : c.k ≠ 3 := by omega
  obtain ⟨jr, hjr, hcr, hth, hkr⟩ := h.run
  have hko := (obj_ok h h0 h3).2
  have hto : thAt l (rOf l c).t = l[jo] := thAt_of hjo (by omega)
  rw [hto] at hko
  have hne : jo ≠ jr := fun e => by subst e; exact kinds_ne hko hkr
  rw [do_obj h hjr hcr hjo hne, do_snd]
  cases hl : liveB l (rOf l c) with
  | false =>
    have e := act_dead h0 h3 hl
    refine ⟨by rw [e], ?_⟩
    rw [get_of (congrArg Prod.fst e)]; rfl
  | true =>
    have e := act_far h0 h3 hl
    rw [far2 hk, hto, ho, setTh_at] at e
    refine ⟨by rw [e]; simp, ?_⟩
    rw [get_of (congrArg Prod.fst e)]; simp
theorem do_copy {l : List T8} {c : C5} (h : OkC l c) (hk : c.k = 3) {jr : Nat} (hj : jr < l.length) (hr : c.r = (jr : Int) + 1) :
    (doV l c).2 = 0 ∧ (doV l c).1[jr]'(by rw [do_len]; exact hj) = { l[jr] with num := 0, slots := l[jr].slots.set c.b.toNat (lessR (rOf l c) (mk1 c.n) (mk2 c.n) (mk4 c.n)) } := by
  have e := act_copy h hk
  have e2 : (doV l c).2 = 0 := by rw [do_snd, e]
  refine ⟨e2, ?_⟩
  rw [do_run hj hr, e2]
  rw [(run_at h hj hr).1, hr, setTh_at] at e
  rw [get_of (congrArg Prod.fst e)]; simp
theorem do_fetch {l : List T8} {c : C5} (h : OkC l c) (hk : c.k = 4) (ha : 0 ≤ (doV l c).2) {jr jo : Nat} (hj : jr < l.length) (hr : c.r = (jr : Int) + 1) (hjo : jo < l.length) (ho : (rOf l c).t = (jo : Int) + 1) :
    (doV l c).2 = 0 ∧ (doV l c).1[jr]'(by rw [do_len]; exact hj) = { l[jr] with num := 0, slots := l[jr].slots.set c.b.toNat (gotR l c) } ∧ (doV l c).1[jo]'(by rw [do_len]; exact hjo) = l[jo] := by
  have h0 := pass_of h ha
  have h3 : c.k ≠ 3 := by omega
  obtain ⟨hs, hl⟩ := sees_live h0 h3 (by rw [hk]; rfl)
  have hko := (obj_ok h h0 h3).2
  have hto : thAt l (rOf l c).t = l[jo] := thAt_of hjo (by omega)
  rw [hto] at hko
  have hne : jo ≠ jr := fun e => by subst e; exact kinds_ne hko (run_at h hj hr).2
  have e := act_far h0 h3 hl
  rw [far4 hk, hs, (run_at h hj hr).1, hr, setTh_at] at e
  have e2 : (doV l c).2 = 0 := by rw [do_snd, e]; simp
  refine ⟨e2, ?_, ?_⟩
  · rw [do_run hj hr, e2, get_of (congrArg Prod.fst e)]
    simp [gotR]
  · rw [do_obj h hj hr hjo hne, get_of (congrArg Prod.fst e)]
    simp only
    rw [List.getElem_set_ne (fun e => hne e.symm)]
theorem do_store {l : List T8} {c : C5} (h : OkC l c) (hk : c.k = 5) (ha : 0 ≤ (doV l c).2) {jr jo : Nat} (hj : jr < l.length) (hr : c.r = (jr : Int) + 1) (hjo : jo < l.length) (ho : (rOf l c).t = (jo : Int) + 1) :
    (doV l c).2 = 0 ∧ (doV l c).1[jr]'(by rw [do_len]; exact hj) = { l[jr] with num := 0 } ∧ (doV l c).1[jo]'(by rw [do_len]; exact hjo) = if liveB l (rOf l c) then { l[jo] with slots := l[jo].slots.set (c.n % 4).toNat (slotAt l[jr] c.b) } else l[jo] := by
  have h0 := pass_of h ha
  have h3 : c.k ≠ 3 := by omega
  have hko := (obj_ok h h0 h3).2
  have hto : thAt l (rOf l c).t = l[jo] := thAt_of hjo (by omega)
  rw [hto] at hko
  have hne : jo ≠ jr := fun e => by subst e; exact kinds_ne hko (run_at h hj hr).2
  cases hl : liveB l (rOf l c) with
  | false =>
    have e := act_dead h0 h3 hl
    have e2 : (doV l c).2 = 0 := by rw [do_snd, e]
    refine ⟨e2, ?_, ?_⟩
    · rw [do_run hj hr, e2, get_of (congrArg Prod.fst e)]
    · rw [do_obj h hj hr hjo hne, get_of (congrArg Prod.fst e)]; rfl
  | true =>
    have e := act_far h0 h3 hl
    rw [far5 hk, hto, ho, setTh_at, (run_at h hj hr).1] at e
    have e2 : (doV l c).2 = 0 := by rw [do_snd, e]; simp
    refine ⟨e2, ?_, ?_⟩
    · rw [do_run hj hr, e2, get_of (congrArg Prod.fst e)]
      simp only
      rw [List.getElem_set_ne hne]
    · rw [do_obj h hj hr hjo hne, get_of (congrArg Prod.fst e)]; simp
/-- Who may not know is answered 0, or refused outright. -/
theorem do_blind {l : List T8} {c : C5} (h : OkC l c) (h3 : c.k ≠ 3) (hs : seesT (thAt l c.r) (thAt l (rOf l c).t) = false) : (doV l c).2 = -1 ∨ (doV l c).2 = -2 ∨ (doV l c).2 = 0 := by
  have ha := do_ans h
  generalize (doV l c).2 = ans at ha ⊢
  cases ha with
  | ref h1 =>
    rcases chk_vals h with e | e | e | e
    · omega
    · omega
    · omega
    · exfalso
      obtain ⟨-, -, -, -, -, hv⟩ := chk_facts e (by decide) h3
      change (-3 : Int) = if ((!needR c.k || seesT (thAt l c.r) (thAt l (rOf l c).t)) && (!needW c.k || touT (thAt l c.r) (thAt l (rOf l c).t))) = false then -2 else if (seesT (thAt l c.r) (thAt l (rOf l c).t) && !liveB l (rOf l c)) then -3 else 0 at hv
      rw [hs] at hv
      split at hv
      · omega
      · simp at hv
  | plain _ _ h1 _ => rw [hs] at h1; cases h1
  | read _ _ h1 _ => rw [hs] at h1; cases h1
  | full _ _ h1 _ => rw [hs] at h1; cases h1
  | sent _ _ h1 _ _ => rw [hs] at h1; cases h1
  | took _ _ _ _ h1 _ _ => rw [hs] at h1; cases h1
  | renewed _ _ h1 _ _ => rw [hs] at h1; cases h1
  | _ => omega
/-- Nobody changes another runner. -/
theorem do_other {l : List T8} {c : C5} (h : OkC l c) {i : Nat} (hi : i < l.length) (hne : (i : Int) + 1 ≠ c.r) (hk : l[i].kind = 3) : (doV l c).1[i]'(by rw [do_len]; exact hi) = l[i] := by
  have := do_step h i hi
  generalize (doV l c).1[i]'(by rw [do_len]; exact hi) = y at this ⊢
  cases this with
  | same _ => rfl
  | _ => omega
/-- Each call has answers of its own. -/
theorem do_kinds {l : List T8} {c : C5} (h : OkC l c) : ((doV l c).2 = -4 → c.k = 6 ∨ c.k = 7 ∨ c.k = 8) ∧ (0 < (doV l c).2 → c.k = 1 ∨ c.k = 7) := by
  have hv := chk_vals h
  have ha := do_ans h
  generalize (doV l c).2 = ans at ha ⊢
  cases ha with
  | ref h1 => omega
  | read h0 _ _ hk =>
    refine ⟨fun e => ?_, fun _ => .inl hk⟩
    have := obj_ok h h0 (by omega)
    have := okT_num0 this.1 (kinds_ne this.2)
    omega
  | took _ qs h0 hl hs hk hq => exact ⟨fun _ => .inr (.inl hk), fun _ => .inr hk⟩
  | _ => omega
/-- A call changes the runner, its thing, and, through a gate, a page. -/
theorem do_touch {l : List T8} {c : C5} (h : OkC l c) {i : Nat} (hi : i < l.length) (hne : (i : Int) + 1 ≠ c.r) (hno : (i : Int) + 1 ≠ (rOf l c).t) (hg : c.k = 9 → (thAt l (rOf l c).t).kind = 5 → (i : Int) + 1 ≠ (thAt l (rOf l c).t).to) : (doV l c).1[i]'(by rw [do_len]; exact hi) = l[i] := by
  have := do_step h i hi
  generalize (doV l c).1[i]'(by rw [do_len]; exact hi) = y at this ⊢
  cases this with
  | same _ => rfl
  | page _ hk _ ht hg' => exact absurd ht (hg hk hg')
  | _ => omega
end Go.Proofs.YtbopficnajdaoaaGreatDoor

namespace Go.Proofs.YtbopficnajdaoaaGreatDoor
open Go.RowKit
set_option linter.unusedVariables false

/-! A call behind another one. -/
theorem OkC.on {l : List T8} {c d : C5} (h : OkC l c) (hd : OkC l d) : OkC (doV l c).1 d := by
  obtain ⟨jr, hjr, hcr, hth, hkr⟩ := hd.run
  refine ⟨?_, hd.2⟩
  rw [do_tab h, Bool.true_and]
  have e : thAt (doV l c).1 d.r = (doV l c).1[jr]'(by rw [do_len]; exact hjr) := thAt_of (by rw [do_len]; exact hjr) (by omega)
  unfold isRun
  rw [e, (do_same h hjr).1, hkr, do_len]
  simp [inR]
  omega
theorem OkC.as {l : List T8} {c d : C5} (h : OkC l c) (hr : d.r = c.r) (hd : d.ok = true) : OkC l d := ⟨by rw [hr]; exact h.1, hd⟩
/-- Public things are the same. -/
theorem pub_at {l : List T8} {c : C5} (h : OkC l c) (n : Int) : (thAt (doV l c).1 n).kind = (thAt l n).kind ∧ (thAt (doV l c).1 n).sec = (thAt l n).sec ∧ (thAt (doV l c).1 n).vou = (thAt l n).vou ∧ (thAt (doV l c).1 n).to = (thAt l n).to := by
  unfold thAt
  by_cases hn : (n - 1).toNat < l.length
  · rw [List.getElem?_eq_getElem hn, List.getElem?_eq_getElem (by rw [do_len]; exact hn)]
    have := do_same h hn
    exact ⟨this.1, this.2.1, this.2.2.1, this.2.2.2.1⟩
  · rw [List.getElem?_eq_none (by rw [do_len]; omega), List.getElem?_eq_none (by omega)]
    exact ⟨rfl, rfl, rfl, rfl⟩
theorem useV_eq {l l' : List T8} {p p' : T8} {r : R5} {k : Int} (h1 : (thAt l' r.t).kind = (thAt l r.t).kind) (h2 : seesT p' (thAt l' r.t) = seesT p (thAt l r.t)) (h3 : touT p' (thAt l' r.t) = touT p (thAt l r.t)) (h4 : liveB l' r = liveB l r) : useV l' p' r k = useV l p r k := by
  unfold useV; rw [h1, h2, h3, h4]
theorem chk_on {l : List T8} {c d : C5} (h : OkC l c) (hd : OkC l d) (hr : rOf (doV l c).1 d = rOf l d) (hl : liveB (doV l c).1 (rOf l d) = liveB l (rOf l d)) : chkV (doV l c).1 d = chkV l d := by
  rw [chkV_go (h.on hd).1 hd.2, chkV_go hd.1 hd.2]
  split
  · rfl
  · change useV _ _ (rOf (doV l c).1 d) d.k = useV _ _ (rOf l d) d.k
    rw [hr]
    have a := pub_at h d.r
    have b := pub_at h (rOf l d).t
    exact useV_eq b.1 (seesT_eq a.2.1 a.2.2.1 b.2.1 b.2.2.1) (touT_eq a.2.1 a.2.2.1 b.2.1 b.2.2.1) hl
theorem sees_on {l : List T8} {c : C5} (h : OkC l c) (m n : Int) : seesT (thAt (doV l c).1 m) (thAt (doV l c).1 n) = seesT (thAt l m) (thAt l n) := by
  have a := pub_at h m
  have b := pub_at h n
  exact seesT_eq a.2.1 a.2.2.1 b.2.1 b.2.2.1
theorem live_on {l l' : List T8} {r : R5} (hl : l'.length = l.length) (hv : (thAt l' r.t).vers = (thAt l r.t).vers) : liveB l' r = liveB l r := by
  unfold liveB
  rw [versAt_th, versAt_th, hl, show r.t - 1 + 1 = r.t by omega, hv]
/-- Versions stay but by renewal. -/
theorem vers_on {l : List T8} {c : C5} (h : OkC l c) (hk : c.k ≠ 8) (n : Int) : (thAt (doV l c).1 n).vers = (thAt l n).vers := by
  unfold thAt
  by_cases hn : (n - 1).toNat < l.length
  · rw [List.getElem?_eq_getElem hn, List.getElem?_eq_getElem (by rw [do_len]; exact hn)]
    have := do_step h _ hn
    generalize (doV l c).1[(n - 1).toNat]'(by rw [do_len]; exact hn) = y at this ⊢
    cases this with
    | renew _ _ e => exact absurd e hk
    | _ => rfl
  · rw [List.getElem?_eq_none (by rw [do_len]; omega), List.getElem?_eq_none (by omega)]
/-- A runner's rights stay but by copying and fetching. -/
theorem slots_on {l : List T8} {c : C5} (h : OkC l c) (h3 : c.k ≠ 3) (h4 : c.k ≠ 4) {jr : Nat} (hj : jr < l.length) (hk : l[jr].kind = 3) : ((doV l c).1[jr]'(by rw [do_len]; exact hj)).slots = l[jr].slots := by
  have := do_step h jr hj
  generalize (doV l c).1[jr]'(by rw [do_len]; exact hj) = y at this ⊢
  cases this with
  | run S _ _ hS =>
    rcases hS with e | ⟨e, -⟩ | ⟨e, -⟩
    · exact e
    · exact absurd e h3
    · exact absurd e h4
  | store _ _ _ e => omega
  | renew _ _ _ e => omega
  | _ => rfl
theorem rOf_on {l : List T8} {c d : C5} (h : OkC l c) (hd : OkC l d) (h3 : c.k ≠ 3) (h4 : c.k ≠ 4) : rOf (doV l c).1 d = rOf l d := by
  obtain ⟨jr, hjr, hcr, hth, hkr⟩ := hd.run
  unfold rOf slotAt
  rw [thAt_of (l := (doV l c).1) (j := jr) (by rw [do_len]; exact hjr) (by omega), slots_on h h3 h4 hjr hkr, hth]
/-- What is told of a call behind one that neither copies nor fetches nor renews. -/
theorem chk_next {l : List T8} {c d : C5} (h : OkC l c) (hd : OkC l d) (h3 : c.k ≠ 3) (h4 : c.k ≠ 4) (h8 : c.k ≠ 8) : chkV (doV l c).1 d = chkV l d :=
  chk_on h hd (rOf_on h hd h3 h4) (live_on (do_len l c) (vers_on h h8 _))
/-- Two calls by the same right. -/
theorem rOf_eq {l : List T8} {c d : C5} (hr : d.r = c.r) (ha : d.a = c.a) : rOf l d = rOf l c := by unfold rOf; rw [hr, ha]
theorem sees_gone {l : List T8} {c : C5} (h0 : chkV l c = 0) (h3 : c.k ≠ 3) (hs : seesT (thAt l c.r) (thAt l (rOf l c).t) = true) : liveB l (rOf l c) = true := by
  obtain ⟨-, -, -, -, -, hv⟩ := chk_facts h0 (by decide) h3
  change (0 : Int) = if ((!needR c.k || seesT (thAt l c.r) (thAt l (rOf l c).t)) && (!needW c.k || touT (thAt l c.r) (thAt l (rOf l c).t))) = false then -2 else if (seesT (thAt l c.r) (thAt l (rOf l c).t) && !liveB l (rOf l c)) then -3 else 0 at hv
  cases hl : liveB l (rOf l c) with
  | true => rfl
  | false =>
    rw [hs, hl] at hv
    split at hv
    · omega
    · simp at hv
theorem jo_ne {l : List T8} {c : C5} (h : OkC l c) (h0 : chkV l c = 0) (h3 : c.k ≠ 3) {jr jo : Nat} (hj : jr < l.length) (hr : c.r = (jr : Int) + 1) (hjo : jo < l.length) (ho : (rOf l c).t = (jo : Int) + 1) : thAt l (rOf l c).t = l[jo] ∧ kindOk c.k l[jo].kind = true ∧ jo ≠ jr := by
  have hko := (obj_ok h h0 h3).2
  have hto : thAt l (rOf l c).t = l[jo] := thAt_of hjo (by omega)
  rw [hto] at hko
  exact ⟨hto, hko, fun e => by subst e; exact kinds_ne hko (run_at h hj hr).2⟩
theorem do_send {l : List T8} {c : C5} (h : OkC l c) (hk : c.k = 6) (h0 : chkV l c = 0) {jr jo : Nat} (hj : jr < l.length) (hr : c.r = (jr : Int) + 1) (hjo : jo < l.length) (ho : (rOf l c).t = (jo : Int) + 1) :
    if liveB l (rOf l c) = true ∧ l[jo].queue.length < 3 then (doV l c).2 = 0 ∧ (doV l c).1[jo]'(by rw [do_len]; exact hjo) = { l[jo] with queue := l[jo].queue ++ [c.n] }
    else (doV l c).1[jo]'(by rw [do_len]; exact hjo) = l[jo] ∧ (doV l c).2 = if seesT l[jr] l[jo] then -4 else 0 := by
  have h3 : c.k ≠ 3 := by omega
  obtain ⟨hto, hko, hne⟩ := jo_ne h h0 h3 hj hr hjo ho
  have hth := (run_at h hj hr).1
  rw [do_obj h hj hr hjo hne, do_snd]
  cases hl : liveB l (rOf l c) with
  | false =>
    have e := act_dead h0 h3 hl
    have hs : seesT l[jr] l[jo] = false := by
      cases hs : seesT l[jr] l[jo] with
      | false => rfl
      | true =>
        rw [← hth, ← hto] at hs
        have := sees_gone h0 h3 hs
        rw [hl] at this; cases this
    rw [if_neg (fun h => by cases h.1), hs]
    refine ⟨?_, by rw [e]; rfl⟩
    rw [get_of (congrArg Prod.fst e)]
  | true =>
    have e := act_far h0 h3 hl
    rw [far6 hk, hto, hth] at e
    by_cases hq : l[jo].queue.length < 3
    · rw [if_pos ⟨rfl, hq⟩]
      rw [if_neg (by omega), ho, setTh_at] at e
      refine ⟨by rw [e]; simp, ?_⟩
      rw [get_of (congrArg Prod.fst e)]; simp
    · rw [if_neg (fun h => hq h.2)]
      rw [if_pos (by omega)] at e
      refine ⟨?_, by rw [e]⟩
      rw [get_of (congrArg Prod.fst e)]
theorem do_take {l : List T8} {c : C5} (h : OkC l c) (hk : c.k = 7) (h0 : chkV l c = 0) {jr jo : Nat} (hj : jr < l.length) (hr : c.r = (jr : Int) + 1) (hjo : jo < l.length) (ho : (rOf l c).t = (jo : Int) + 1) :
    (doV l c).1[jo]'(by rw [do_len]; exact hjo) = { l[jo] with queue := l[jo].queue.tail } ∧ (doV l c).2 = (l[jo].queue.head?).getD (-4) := by
  have h3 : c.k ≠ 3 := by omega
  obtain ⟨hto, hko, hne⟩ := jo_ne h h0 h3 hj hr hjo ho
  obtain ⟨hs, hl⟩ := sees_live h0 h3 (by rw [hk]; rfl)
  have e := act_far h0 h3 hl
  rw [hs] at e
  rw [do_obj h hj hr hjo hne, do_snd]
  cases hq : l[jo].queue with
  | nil =>
    rw [far7n hk (by rw [hto]; exact hq)] at e
    refine ⟨?_, by rw [e]; rfl⟩
    rw [get_of (congrArg Prod.fst e)]
    have : l[jo] = { l[jo] with queue := [] } := by rw [← hq]
    exact this
  | cons q qs =>
    rw [far7 hk (by rw [hto]; exact hq), hto, ho, setTh_at] at e
    refine ⟨?_, by rw [e]; rfl⟩
    rw [get_of (congrArg Prod.fst e)]; simp
theorem do_renew {l : List T8} {c : C5} (h : OkC l c) (hk : c.k = 8) (h0 : chkV l c = 0) {jr jo : Nat} (hj : jr < l.length) (hr : c.r = (jr : Int) + 1) (hjo : jo < l.length) (ho : (rOf l c).t = (jo : Int) + 1) :
    (doV l c).1[jo]'(by rw [do_len]; exact hjo) = if liveB l (rOf l c) = true ∧ l[jo].vers < 5 then { newT l[jo].kind l[jo].sec l[jo].vou 0 with vers := l[jo].vers + 1 } else l[jo] := by
  have h3 : c.k ≠ 3 := by omega
  obtain ⟨hto, hko, hne⟩ := jo_ne h h0 h3 hj hr hjo ho
  rw [do_obj h hj hr hjo hne]
  cases hl : liveB l (rOf l c) with
  | false =>
    have e := act_dead h0 h3 hl
    rw [get_of (congrArg Prod.fst e), if_neg (fun h => by cases h.1)]
  | true =>
    have e := act_far h0 h3 hl
    rw [far8 hk, hto] at e
    by_cases hq : l[jo].vers < 5
    · rw [if_pos ⟨rfl, hq⟩]
      rw [if_neg (by omega), ho, setTh_at] at e
      rw [get_of (congrArg Prod.fst e)]; simp
    · rw [if_neg (fun h => hq h.2)]
      rw [if_pos (by omega)] at e
      rw [get_of (congrArg Prod.fst e)]
theorem pass_zero {l : List T8} {c : C5} (h : OkC l c) (ha : (doV l c).2 = 0) : chkV l c = 0 := pass_of h (by omega)
/-- No right to what was renewed lives. -/
theorem renew_gone {l : List T8} {c : C5} (h : OkC l c) {jo : Nat} (hjo : jo < l.length) (hv : l[jo].vers < ((doV l c).1[jo]'(by rw [do_len]; exact hjo)).vers) {i k : Nat} (hi : i < l.length) (hk : k < ((doV l c).1[i]'(by rw [do_len]; exact hi)).slots.length) (ht : (((doV l c).1[i]'(by rw [do_len]; exact hi)).slots[k]).t = (jo : Int) + 1) :
    tabLive (doV l c).1 (((doV l c).1[i]'(by rw [do_len]; exact hi)).slots[k]) = false := by
  have h1 := stp_ok h hi (ans_bd h) (do_step h i hi)
  have h2 := List.all_eq_true.1 h1.2.2.2.2.2.2.1 _ (List.getElem_mem hk)
  generalize ((doV l c).1[i]'(by rw [do_len]; exact hi)).slots[k] = r at *
  have e1 : versAt l (r.t - 1) = l[jo].vers := by
    unfold versAt
    rw [ht, show ((jo : Int) + 1 - 1).toNat = jo by omega, List.getElem?_eq_getElem hjo]; rfl
  have e2 : versAt (doV l c).1 (r.t - 1) = ((doV l c).1[jo]'(by rw [do_len]; exact hjo)).vers := by
    unfold versAt
    rw [ht, show ((jo : Int) + 1 - 1).toNat = jo by omega, List.getElem?_eq_getElem (by rw [do_len]; exact hjo)]; rfl
  have h3 : r.v ≤ l[jo].vers := by
    simp only [rightIn, e1] at h2
    simp at h2
    omega
  unfold tabLive liveB
  rw [e2]
  have : (((doV l c).1[jo]'(by rw [do_len]; exact hjo)).vers == r.v) = false := by simp; omega
  rw [this]; simp
/-- Through a gate. -/
theorem do_gate {l : List T8} {c : C5} (h : OkC l c) (hk : c.k = 9) (h0 : chkV l c = 0) {jr jo : Nat} (hj : jr < l.length) (hr : c.r = (jr : Int) + 1) (hjo : jo < l.length) (ho : (rOf l c).t = (jo : Int) + 1) :
    ∃ jt : Nat, ∃ hjt : jt < l.length, l[jo].to = (jt : Int) + 1 ∧ l[jt].kind = 1 ∧ l[jo].kind = 5 ∧ jt ≠ jo ∧ jt ≠ jr ∧ jo ≠ jr ∧ (doV l c).2 = 0 ∧
      (doV l c).1 = ((l.set jt { l[jt] with num := c.n % 2 }).set jo { l[jo] with num := min (l[jo].num + 1) 99 }).set jr { l[jr] with num := 0 } := by
  have h3 : c.k ≠ 3 := by omega
  obtain ⟨hto, hko, hne⟩ := jo_ne h h0 h3 hj hr hjo ho
  have hk5 : l[jo].kind = 5 := by have := kind_of hko; simpa [kindsOf, hk] using this
  obtain ⟨jt, hjt, ht, hkt⟩ := gate_to h.tab hjo hk5
  have hkr := (run_at h hj hr).2
  have n1 : jt ≠ jo := fun e => by subst e; omega
  have n2 : jt ≠ jr := fun e => by subst e; omega
  have hl : liveB l (rOf l c) = true := by
    obtain ⟨o1, o2⟩ := rOf_in h
    have hv : l[jo].vers = 0 := by
      have ho := tab_okT h.tab hjo
      simp only [okT, okT2, Bool.and_eq_true] at ho
      have := ho.2.1.2.2
      simpa [hk5] using this
    have e1 : versAt l ((rOf l c).t - 1) = 0 := by
      unfold versAt
      rw [ho, show ((jo : Int) + 1 - 1).toNat = jo by omega, List.getElem?_eq_getElem hjo]; exact hv
    have b1 : 0 ≤ (rOf l c).v := by
      have : okR (rOf l c).t (rOf l c).v (rOf l c).r (rOf l c).w (rOf l c).k = true := o1
      simp [okR, show (rOf l c).t ≠ 0 by omega, inR] at this
      exact this.2.1.1
    have b2 : (rOf l c).v ≤ 0 := by
      simp only [rightIn, e1] at o2
      simp at o2
      omega
    unfold liveB
    rw [e1]
    simp [inR]
    omega
  have e := act_far h0 h3 hl
  rw [far9 hk, hto, ht, ho, setTh_at, setTh_at, thAt_of hjt (show (jt : Int) + 1 - 1 = jt by omega)] at e
  have e2 : (doV l c).2 = 0 := by rw [do_snd, e]; simp
  refine ⟨jt, hjt, ht, hkt, hk5, n1, n2, hne, e2, ?_⟩
  rw [do_first hj hr, ← do_snd, e2]
  have e3 : (actV l c).1 = (l.set jt { l[jt] with num := c.n % 2 }).set jo { l[jo] with num := min (l[jo].num + 1) 99 } := by rw [e]
  have e4 : (actV l c).1[jr]'(by rw [act_len]; exact hj) = l[jr] := by
    rw [get_of e3, List.getElem_set_ne hne, List.getElem_set_ne n2]
  rw [e4, e3]
end Go.Proofs.YtbopficnajdaoaaGreatDoor

namespace Go.Proofs.YtbopficnajdaoaaGreatDoor
open Go.RowKit
set_option maxRecDepth 100000
set_option linter.unusedVariables false

/-- What a deed leaves, as plain data. -/
def FarPost (n0 : Nat) (w : World) (s : Sl) (v : List T8 × Int) (e : Ending) (w' : World) : Prop := ∃ ts' : List Tr, DeedPost n0 w s ts' v.2 e w' ∧ ts'.map (·.1) = v.1
theorem far_of {n0 : Nat} {w : World} {s : Sl} {ts' : List Tr} {ans : Int} {v : List T8 × Int} (hv : v = (ts'.map (·.1), ans)) {e : Ending} {w' : World} (h : DeedPost n0 w s ts' ans e w') : FarPost n0 w s v e w' := by
  subst hv; exact ⟨ts', h, rfl⟩
theorem tmod_of {n : Int} (h : 0 ≤ n) (m : Nat) (hm : 0 < m) : Int.tmod n m = ((n % m).toNat : Int) := by
  rw [Int.tmod_eq_emod_of_nonneg h]
  have := Int.emod_nonneg n (b := (m : Int)) (by omega)
  omega
/-- A runner's, a node's rights lie somewhere. -/
theorem four_of {n0 : Nat} {W : World} {s : Sl} {ts : List Tr} (hT : TaW n0 W s ts) {j : Nat} {t : Tr} (ht : ts[j]? = some t) (h4 : t.1.slots.length = 4) : ∃ (tc : T8) (ta tcp : Nat) (tq : Sl), t = (tc, ⟨some ⟨ta, 0, none⟩, 4, tcp⟩, tq) := by
  obtain ⟨b, T, cur, -, e, -, -, e4⟩ := rowFour (hT.get ht).1 h4
  obtain ⟨tc, ⟨sa, sn, sc⟩, tq⟩ := t
  dsimp only at e e4
  subst e e4
  exact ⟨tc, b, sc, tq, rfl⟩
theorem node_slots {x : T8} (h : okT x = true) (hk : x.kind = 2 ∨ x.kind = 3) : x.slots.length = 4 := by
  have h3 : okT3 x = true := by simp only [okT, Bool.and_eq_true] at h; exact h.2.2.2.2.1
  rcases hk with hk | hk <;> simp [okT3, hasS, hk] at h3 <;> omega
set_option maxHeartbeats 1000000 in
theorem deed_far (n0 : Nat) (s : Sl) (ts : List Tr) (l : List T8) (c : C5) (g jr jo : Nat) (w : World) (hT : TaW n0 w s ts) (hts : ts.map (·.1) = l) (hn : n0 ≤ w.heap.size) (hs : s.a = some ⟨g, 0, none⟩) (hf : KF w) (h : OkC l c) (h0 : chkV l c = 0) (h3 : c.k ≠ 3) (hjr : jr < l.length) (hcr : c.r = (jr : Int) + 1) (hjo : jo < l.length) (hro : (rOf l c).t = (jo : Int) + 1) :
    Calls Tryz.prog (fnOf c.k) #[.agg (deedC s c (ptr g jr) (rOf l c) (ptr g jo))] w (FarPost n0 w s (farV l c (rOf l c))) := by
  obtain ⟨hto, hko, hne⟩ := jo_ne h h0 h3 hjr hcr hjo hro
  obtain ⟨hth, hkr⟩ := run_at h hjr hcr
  have hoo := tab_okT h.tab hjo
  have hor := tab_okT h.tab hjr
  have hkk := kind_of hko
  obtain ⟨t, ht, et⟩ := row_get hts hjr
  obtain ⟨u, hu, eu⟩ := row_get hts hjo
  have hb := C5.bd h.2
  have hll : ts.length = l.length := by rw [← hts]; simp
  rcases eight (ok_k h.2).1 h3 with hk | hk | hk | hk | hk | hk | hk | hk
  · rw [hk]
    refine (deedRead n0 s ts c _ (rOf l c) g jo u w hT hn hs hu).mono fun e w' hp => far_of ?_ hp
    rw [far1 hk, hto, eu, hts]
  · rw [hk]
    refine (deedWrite n0 s ts c _ (rOf l c) g jo u w hT hn hs hu).mono fun e w' hp => far_of ?_ hp
    rw [far2 hk, hto, hro, setTh_at, map_set1 hts]
    dsimp only
    rw [eu]
  · have hku : l[jo].kind = 2 := by simpa [kindsOf, hk] using hkk
    obtain ⟨tc, ta, tcp, tq, rfl⟩ := four_of hT ht (by rw [et]; exact node_slots hor (.inr hkr))
    obtain ⟨uc, ua, ucp, uq, rfl⟩ := four_of hT hu (by rw [eu]; exact node_slots hoo (.inl hku))
    dsimp only at et eu
    subst et eu
    have l1 := node_slots hor (.inr hkr)
    have l2 := node_slots hoo (.inl hku)
    obtain ⟨ck, cr, ca, cb, cn⟩ := c
    dsimp only at *
    obtain ⟨jb, rfl⟩ : ∃ jb : Nat, cb = jb := ⟨cb.toNat, by omega⟩
    have hjb : jb < 4 := by omega
    have hjn : (cn % 4).toNat < 4 := by omega
    subst hk
    refine (deedFetch n0 s ts _ cr ca jb cn _ g jr jo (cn % 4).toNat l[jr] l[jo] ta ua tcp ucp tq uq w hT hn hs ht hu (l[jo].slots[(cn % 4).toNat]'(by omega)) (l[jr].slots[jb]'(by omega)) (List.getElem?_eq_getElem _) (List.getElem?_eq_getElem _) hjb hjn (tmod_of hb.2.2.2.2.1 4 (by decide))).mono fun e w' hp => far_of ?_ hp
    rw [far4 (by rfl), hto, hth]
    dsimp only
    rw [hcr, setTh_at, map_set1 hts]
    dsimp only
    rw [slotAt_of (j := (cn % 4).toNat) (by omega) (by omega)]
    simp
  · have hku : l[jo].kind = 2 := by simpa [kindsOf, hk] using hkk
    obtain ⟨tc, ta, tcp, tq, rfl⟩ := four_of hT ht (by rw [et]; exact node_slots hor (.inr hkr))
    obtain ⟨uc, ua, ucp, uq, rfl⟩ := four_of hT hu (by rw [eu]; exact node_slots hoo (.inl hku))
    dsimp only at et eu
    subst et eu
    have l1 := node_slots hor (.inr hkr)
    have l2 := node_slots hoo (.inl hku)
    obtain ⟨ck, cr, ca, cb, cn⟩ := c
    dsimp only at *
    obtain ⟨jb, rfl⟩ : ∃ jb : Nat, cb = jb := ⟨cb.toNat, by omega⟩
    have hjb : jb < 4 := by omega
    have hjn : (cn % 4).toNat < 4 := by omega
    subst hk
    refine (deedStore n0 s ts _ cr ca jb cn _ g jr jo (cn % 4).toNat l[jr] l[jo] ta ua 0 tcp ucp tq uq w hT hn hs ht hu (l[jr].slots[jb]'(by omega)) (l[jo].slots[(cn % 4).toNat]'(by omega)) (List.getElem?_eq_getElem _) (List.getElem?_eq_getElem _) hjb hjn (tmod_of hb.2.2.2.2.1 4 (by decide))).mono fun e w' hp => far_of ?_ hp
    rw [far5 (by rfl), hto, hth, hro, setTh_at, map_set1 hts]
    dsimp only
    rw [slotAt_of (j := jb) (by omega) rfl]
  · obtain ⟨uc, us, uq⟩ := u
    dsimp only at eu
    subst eu
    rw [hk]
    by_cases hq : 3 ≤ l[jo].queue.length
    · refine (deedFull n0 s ts c _ (rOf l c) g jo l[jo] us uq w hT hn hs hu (by have := (okT_queue hoo).1; omega)).mono fun e w' hp => far_of ?_ hp
      rw [far6 hk, hto, if_pos hq, hts]
    · refine (deedSend n0 s ts c _ (rOf l c) g jo l[jo] us uq w hT hn hs hu (by omega)).mono fun e w' ⟨q, hp⟩ => far_of ?_ hp
      rw [far6 hk, hto, if_neg hq, hro, setTh_at, map_set1 hts]
  · obtain ⟨uc, us, uq⟩ := u
    dsimp only at eu
    subst eu
    rw [hk]
    cases hq : l[jo].queue with
    | nil =>
      refine (deedNone n0 s ts c _ (rOf l c) g jo l[jo] us uq w hT hn hs hu (by rw [hq]; rfl)).mono fun e w' hp => far_of ?_ hp
      rw [far7n hk (by rw [hto]; exact hq), hts]
    | cons q qs =>
      refine (deedTake n0 s ts c _ (rOf l c) g jo l[jo] us uq w hT hn hs hu ⟨by rw [hq]; simp, (okT_queue hoo).1⟩).mono fun e w' ⟨q', hp⟩ => far_of ?_ hp
      rw [far7 hk (by rw [hto]; exact hq), hto, hro, setTh_at, map_set1 hts]
      dsimp only
      rw [hq]; rfl
  · obtain ⟨uc, us, uq⟩ := u
    dsimp only at eu
    subst eu
    rw [hk]
    have hv := okT_vers hoo
    have hkd : l[jo].kind = 1 ∨ l[jo].kind = 2 ∨ l[jo].kind = 4 := by simpa [kindsOf, hk] using hkk
    by_cases hq : 5 ≤ l[jo].vers
    · refine (deedOld n0 s ts c _ (rOf l c) g jo l[jo] us uq w hT hn hs hu (by omega)).mono fun e w' hp => far_of ?_ hp
      rw [far8 hk, hto, if_pos hq, hts]
    · refine (deedRenew n0 s ts c _ (rOf l c) g jo l[jo] us uq w hT hn hs hu hf (by omega) (okT_new (v := 0) hoo hkd (by omega))).mono fun e w' ⟨ss, q, hp⟩ => far_of ?_ hp
      rw [far8 hk, hto, if_neg hq, hro, setTh_at, map_set1 hts]
  · have hk5 : l[jo].kind = 5 := by simpa [kindsOf, hk] using hkk
    obtain ⟨jt, hjt, hjto, hkt⟩ := gate_to h.tab hjo hk5
    obtain ⟨p, hp0, ep⟩ := row_get hts hjt
    obtain ⟨uc, us, uq⟩ := u
    obtain ⟨pc, ps, pq⟩ := p
    dsimp only at eu ep
    subst eu ep
    have n1 : jt ≠ jo := fun e => by subst e; omega
    rw [hk]
    have hnum := okT_num hoo
    have hnum0 := okT_num0 hoo (by omega)
    refine (deedPass n0 s ts c.k c.r c.a c.b c.n _ (rOf l c) g jo jt l[jo] l[jt] us uq ps pq (c.n % 2) w hT hn hs hu hp0 n1 hjto (by omega) (by have := (tab_len h.tab).2; omega) (Int.tmod_eq_emod_of_nonneg hb.2.2.2.2.1)).mono fun e w' hp => far_of ?_ hp
    rw [far9 hk, hto, hjto, hro, setTh_at, setTh_at, thAt_of hjt (show (jt : Int) + 1 - 1 = jt by omega), map_set1 (map_set1 hts _ _), ← hjto]
end Go.Proofs.YtbopficnajdaoaaGreatDoor

namespace Go.Proofs.YtbopficnajdaoaaGreatDoor
open Go.RowKit
set_option maxRecDepth 100000
set_option linter.unusedVariables false

/-- What a copy of a table leaves. -/
def CopyPost (l : List T8) (w : World) (e : Ending) (w' : World) : Prop :=
  ∃ (s' : Sl) (ts : List Tr), e = .returned (.slice s'.a s'.n s'.c) ∧ TaW w.heap.size w' s' ts ∧ ts.map (·.1) = l ∧ Below w.heap.size w w'
theorem TaW.nil (n0 : Nat) (W : World) : TaW n0 W ⟨none, 0, 0⟩ [] := ⟨OwnF.nil _ _ _ _ _, fun t ht => by (cases ht), fun i j a b hi => by (simp at hi)⟩
theorem TaW.made (W : World) : TaW W.heap.size (W.alloc (.cells #[] 40)) ⟨some ⟨W.heap.size, 0, none⟩, 0, 0⟩ [] := ⟨OwnF.made _ _ _ _, fun t ht => by (cases ht), fun i j a b hi => by (simp at hi)⟩
theorem put5s (x : T8) (s q s1 : Sl) : (T8.cs x s q).setIfInBounds 5 (.slice s1.a s1.n s1.c) = T8.cs x s1 q := by rfl
theorem put6q (x : T8) (s q q1 : Sl) : (T8.cs x s q).setIfInBounds 6 (.slice q1.a q1.n q1.c) = T8.cs x s q1 := by rfl
theorem take_more {l : List T8} {k : Nat} (hk : k < l.length) {ts : List Tr} (h : ts.map (·.1) = l.take k) (s q : Sl) : (ts ++ [(l[k], s, q)]).map (·.1) = l.take (k + 1) := by
  rw [List.map_append, h, List.take_succ_eq_append_getElem hk]; rfl
/-- What a copy of a thing leaves. -/
def ThcPost (x : T8) (w : World) (e : Ending) (w' : World) : Prop :=
  ∃ s1 q1 : Sl, e = .returned (.agg (T8.cs x s1 q1)) ∧ ThW w.heap.size w' (x, s1, q1) ∧ Below w.heap.size w w'
theorem oneTh8 (x : T8) (s q : Sl) : (x.cs s q).all (·.oneCell') = true := by simp [Value.oneCell']
theorem infoTh8 : (Tryz.prog.info? 40).map (·.size) = some 8 := by kernel_rfl
set_option maxHeartbeats 4000000 in
theorem thingCopy_any (x : T8) (ss qs : Sl) (w : World) (hR : HasR w ss x.slots) (hQ : HasQ w qs x.queue) (hz : x.slots.length ≤ 1000) (hz2 : x.queue.length ≤ 1000) :
    Calls Tryz.prog 65 #[.agg (T8.cs x ss qs)] w (ThcPost x w) := by
  obtain ⟨Y, hY⟩ : ∃ Y, (w.alloc (.cells (T8.cs x ss qs) 40)).alloc (.cells #[.int .i64 0, .int .i64 0, .int .i64 0, .int .i64 0, .int .i64 0, .slice none 0 0, .slice none 0 0, .int .i64 0] 40) = Y := ⟨_, rfl⟩
  have bY : Box Y w.heap.size 40 (T8.cs x ss qs) := hY ▸ (Box.fresh _ _ _).past _
  have bZ : Box Y (w.heap.size + 1) 40 #[.int .i64 0, .int .i64 0, .int .i64 0, .int .i64 0, .int .i64 0, .slice none 0 0, .slice none 0 0, .int .i64 0] := by
    have := Box.fresh (w.alloc (.cells (T8.cs x ss qs) 40)) 40 #[.int .i64 0, .int .i64 0, .int .i64 0, .int .i64 0, .int .i64 0, .slice none 0 0, .slice none 0 0, .int .i64 0]
    rw [hY] at this
    simpa using this
  have dY : Below w.heap.size w Y := hY ▸ ((Below.refl _ _).alloc (Nat.le_refl _) _).alloc (by simp) _
  have zY : Y.heap.size = w.heap.size + 2 := by rw [← hY]; simp
  obtain ⟨s1, W2, hr1, o1, b1, z1, k1⟩ := copyR Y.heap.size Y ⟨none, 0, 0⟩ [] (OwnF.nil _ _ _ _ _) (Nat.le_refl _) (by simp) ss x.slots (hR.stay dY) (by omega) 37
  have d2 : Below w.heap.size w W2 := dY.trans (b1.mono (by omega))
  have x2 := k1 _ _ _ (by decide) bY
  have y2 := k1 _ _ _ (by decide) bZ
  have eY5 := bY.cell 5 _ rfl
  have e25 := x2.cell 5 _ rfl
  have f25 := x2.thaw 5
  obtain ⟨Y3, hY3⟩ : ∃ Y3, W2.setCell ⟨w.heap.size, 5, none⟩ (.slice s1.a s1.n s1.c) = Y3 := ⟨_, rfl⟩
  have z3 : Y3.heap.size = W2.heap.size := by rw [← hY3]; simp [World.setCell]
  have x3 : Box Y3 w.heap.size 40 (T8.cs x s1 qs) := by rw [← hY3, ← put5s x ss qs s1]; exact x2.put 5 _
  have y3 : Box Y3 (w.heap.size + 1) 40 #[.int .i64 0, .int .i64 0, .int .i64 0, .int .i64 0, .int .i64 0, .slice none 0 0, .slice none 0 0, .int .i64 0] := hY3 ▸ y2.other (show w.heap.size + 1 ≠ w.heap.size by omega) _
  have d3 : Below w.heap.size w Y3 := by rw [← hY3]; exact d2.setCell (p := ⟨w.heap.size, 5, none⟩) (Nat.le_refl _) _
  have o3 : OwnR w.heap.size Y3 s1 x.slots := by
    have := (o1.row (Tp := TyR) (.inl rfl)).less (n0 := w.heap.size) (by omega)
    rw [List.nil_append] at this
    rw [← hY3]
    exact this.keep fun b T cs _ hT _ _ bx => bx.other (Box.ne bx x2 hT.neT) _
  have e36 := x3.cell 6 _ rfl
  obtain ⟨q1, W4, hr4, o4, b4, z4, k4⟩ := copyQ Y3.heap.size Y3 ⟨none, 0, 0⟩ [] (OwnF.nil _ _ _ _ _) (Nat.le_refl _) (by simp) qs x.queue (hQ.stay d3) (by omega) 38
  have d4 : Below w.heap.size w W4 := d3.trans (b4.mono (by omega))
  have x4 := k4 _ _ _ (by decide) x3
  have y4 := k4 _ _ _ (by decide) y3
  have r4 : OwnR w.heap.size W4 s1 x.slots := o3.keep fun b T cs _ hT _ _ bx => k4 _ _ _ (hT.neQ rfl) bx
  have e46 := x4.cell 6 _ rfl
  have f46 := x4.thaw 6
  obtain ⟨Y5, hY5⟩ : ∃ Y5, W4.setCell ⟨w.heap.size, 6, none⟩ (.slice q1.a q1.n q1.c) = Y5 := ⟨_, rfl⟩
  have x5 : Box Y5 w.heap.size 40 (T8.cs x s1 q1) := by rw [← hY5, ← put6q x s1 qs q1]; exact x4.put 6 _
  have y5 : Box Y5 (w.heap.size + 1) 40 #[.int .i64 0, .int .i64 0, .int .i64 0, .int .i64 0, .int .i64 0, .slice none 0 0, .slice none 0 0, .int .i64 0] := hY5 ▸ y4.other (show w.heap.size + 1 ≠ w.heap.size by omega) _
  have d5 : Below w.heap.size w Y5 := by rw [← hY5]; exact d4.setCell (p := ⟨w.heap.size, 6, none⟩) (Nat.le_refl _) _
  have th5 : ThW w.heap.size Y5 (x, s1, q1) := by
    rw [← hY5]
    refine ⟨r4.keep fun b T cs _ hT _ _ bx => bx.other (Box.ne bx x4 hT.neT) _, ?_⟩
    have := (o4.row (Tp := TyQ) rfl).less (n0 := w.heap.size) (by omega)
    rw [List.nil_append] at this
    exact this.keep fun b T cs _ hT _ _ bx => bx.other (Box.ne bx x4 hT.neT) _
  have X5 := Lib.hid y5
  have D5 := Lib.hid (d5.trans (setRow_below (g := w.heap.size + 1) (by omega) (T8.cs x s1 q1)))
  have TH5 := Lib.hid (th5.keep (W' := Y5.setRow (w.heap.size + 1) (T8.cs x s1 q1)) (fun b T cs hT _ bx => setRow_other bx (Box.ne bx y5 hT.neT)) (fun b T cs hT _ bx => setRow_other bx (Box.ne bx y5 hT.neT)))
  have HZZ := Lib.hid hz
  have h50 := x5.cell 0 _ rfl
  have h51 := x5.cell 1 _ rfl
  have h52 := x5.cell 2 _ rfl
  have h53 := x5.cell 3 _ rfl
  have h54 := x5.cell 4 _ rfl
  have h55 := x5.cell 5 _ rfl
  have h56 := x5.cell 6 _ rfl
  have h57 := x5.cell 7 _ rfl
  clear th5 d5 x5 y5 d4 x4 y4 r4 o4 b4 z4 k4 o3 d3 x3 y3 z3 x2 y2 d2 b1 o1 z1 k1 dY bY bZ zY hR hQ hz hz2
  unfold ThcPost
  go_enter Tryz.func65, Tryz.ntmps65
  go_wp2_with (first
    | refine wpList_append_run rfl (.const (.slice none 0 0)) (.tmp 4) 37 rfl (.slice none 0 0) (.slice ss.a ss.n ss.c) rfl rfl (.slice s1.a s1.n s1.c) W2 hr1 ?_
    | refine wpList_append_run rfl (.const (.slice none 0 0)) (.tmp 8) 38 rfl (.slice none 0 0) (.slice qs.a qs.n qs.c) rfl rfl (.slice q1.a q1.n q1.c) W4 hr4 ?_
    | refine wpList_store_rowTo rfl 40 (.tmp 2) (.tmp 11) rfl rfl (w.heap.size + 1) (T8.cs x s1 q1) rfl rfl 40 #[.int .i64 0, .int .i64 0, .int .i64 0, .int .i64 0, .int .i64 0, .slice none 0 0, .slice none 0 0, .int .i64 0] X5.out infoTh8 rfl (oneTh8 x s1 q1) ?_)
  exact bodyPost_ret (results_row Tryz.results65 _ _ (w.heap.size + 1) 40 (T8.cs x s1 q1) _ rfl (setRow_box X5.out _) Tryz.underlying40 rfl infoTh8) rfl ⟨s1, q1, rfl, TH5.out, D5.out⟩
set_option maxHeartbeats 4000000 in
theorem tableCopy_ne (l : List T8) (b o c : Nat) (w : World) (ht : Tb w b o l) (hz : l.length ≤ 1000) (hzs : ∀ i (h : i < l.length), l[i].slots.length ≤ 1000 ∧ l[i].queue.length ≤ 1000) :
    Calls Tryz.prog 41 #[.slice (some ⟨b, o, none⟩) l.length c] w (CopyPost l w) := by
  have HT := Lib.hid ht
  have HZ := Lib.hid hzs
  clear ht hzs
  unfold CopyPost
  go_enter Tryz.func41, Tryz.ntmps41
  go_wp2
  go_loopw [3, 8] (fun v i wr => ∃ (k : Nat) (ts : List Tr) (so : Sl), v = .slice so.a so.n so.c ∧ i = .int .i64 k ∧ k ≤ l.length ∧ ts.map (·.1) = l.take k ∧ TaW w.heap.size wr so ts ∧ Below w.heap.size w wr) (fun _ i _ => l.length - (intOf i).toNat)
  case atStart => exact ⟨0, [], ⟨none, 0, 0⟩, rfl, rfl, by omega, rfl, TaW.nil _ _, Below.refl _ _⟩
  case round =>
    obtain ⟨k, ts, so, rfl, rfl, hk, hts, T0, B0⟩ := hrel
    have HB0 := Lib.hid B0
    have HT0 := Lib.hid T0
    have HTS := Lib.hid hts
    have hw0 := B0.size
    have htl : ts.length ≤ 1000 := by
      have := congrArg List.length hts
      simp at this; omega
    clear B0 T0 hts
    by_cases hlt : k < l.length
    · have hlt' : (k : Int) < (l.length : Int) := by omega
      obtain ⟨ss, qs, hR, hQ, hA⟩ := (HT.out.stay HB0.out) k hlt
      have c0 : wr.cell? ⟨b, o + k * 8, none⟩ = some (.int .i64 (l[k]).kind) := hA 0 _ rfl
      have c1 : wr.cell? ⟨b, o + k * 8 + 1, none⟩ = some (.int .i64 (l[k]).sec) := hA 1 _ rfl
      have c2 : wr.cell? ⟨b, o + k * 8 + 2, none⟩ = some (.int .i64 (l[k]).vou) := hA 2 _ rfl
      have c3 : wr.cell? ⟨b, o + k * 8 + 3, none⟩ = some (.int .i64 (l[k]).vers) := hA 3 _ rfl
      have c4 : wr.cell? ⟨b, o + k * 8 + 4, none⟩ = some (.int .i64 (l[k]).num) := hA 4 _ rfl
      have c5 : wr.cell? ⟨b, o + k * 8 + 5, none⟩ = some (.slice ss.a ss.n ss.c) := hA 5 _ rfl
      have c6 : wr.cell? ⟨b, o + k * 8 + 6, none⟩ = some (.slice qs.a qs.n qs.c) := hA 6 _ rfl
      have c7 : wr.cell? ⟨b, o + k * 8 + 7, none⟩ = some (.int .i64 (l[k]).to) := hA 7 _ rfl
      have HZK := Lib.hid (HZ.out k hlt)
      obtain ⟨Y, hY⟩ : ∃ Y, wr.alloc (.cells (T8.cs l[k] ss qs) 40) = Y := ⟨_, rfl⟩
      have bY : Box Y wr.heap.size 40 (T8.cs l[k] ss qs) := hY ▸ Box.fresh _ _ _
      have dY : Below wr.heap.size wr Y := hY ▸ (Below.refl _ _).alloc (Nat.le_refl _) _
      have HRQ := Lib.hid (And.intro (hR.stay dY) (hQ.stay dY))
      have DY := Lib.hid dY
      have zY := dY.size
      have g0 := bY.cell 0 _ rfl
      have g1 := bY.cell 1 _ rfl
      have g2 := bY.cell 2 _ rfl
      have g3 := bY.cell 3 _ rfl
      have g4 := bY.cell 4 _ rfl
      have g5 := bY.cell 5 _ rfl
      have g6 := bY.cell 6 _ rfl
      have g7 := bY.cell 7 _ rfl
      clear hA hR hQ dY bY
      go_wp2_with fail
      refine (thingCopy_any l[k] ss qs Y HRQ.out.1 HRQ.out.2 HZK.out.1 HZK.out.2).mono ?_
      rintro e Y5 ⟨s1, q1, rfl, th5', d5'⟩
      have d5 : Below wr.heap.size wr Y5 := DY.out.trans (d5'.mono zY)
      have th5 : ThW wr.heap.size Y5 (l[k], s1, q1) := th5'.less zY
      have z5 := d5.size
      clear th5' d5'
      obtain ⟨s6, W6, hr6, t6, b6, z6, -⟩ := moreT w.heap.size Y5 so ts (HT0.out.stay d5) (by omega) htl (l[k], s1, q1) (th5.less hw0) (fun j t hj => ((HT0.out.get hj).apart th5 (Nat.le_refl _)).symm) 23
      have D6 := Lib.hid ((HB0.out.trans (d5.mono hw0)).trans b6)
      have T6 := Lib.hid t6
      clear t6 b6 z6 th5 d5 z5 HT0 c0 c1 c2 c3 c4 c5 c6 c7 g0 g1 g2 g3 g4 g5 g6 g7
      go_wp2_with (first
        | refine wpList_append_run rfl (.tmp 12) (.tmp 15) 23 rfl (.slice so.a so.n so.c) (.slice (some ⟨Y5.heap.size, 0, none⟩) 1 1) rfl rfl (.slice s6.a s6.n s6.c) W6 hr6 ?_)
      go_roundw
      case rel => exact ⟨k + 1, ts ++ [(l[k], s1, q1)], s6, rfl, by go_num, by omega, take_more hlt HTS.out s1 q1, T6.out, D6.out⟩
      case measure => simp [intOf]; omega
    · have hlt' : ¬ (k : Int) < (l.length : Int) := by omega
      have HJ := Lib.hid (show k = l.length by omega)
      go_wp2
      go_ret
      refine ⟨so, rfl, ts, HT0.out, ?_, HB0.out⟩
      rw [HTS.out, HJ.out, List.take_length]
theorem tableCopy_any (l : List T8) (s : Sl) (w : World) (ht : HasT w s l) (h0 : 0 < l.length) (hz : l.length ≤ 1000) (hzs : ∀ i (h : i < l.length), l[i].slots.length ≤ 1000 ∧ l[i].queue.length ≤ 1000) :
    Calls Tryz.prog 41 #[.slice s.a s.n s.c] w (CopyPost l w) := by
  obtain ⟨h1, h2, h3⟩ := ht
  rcases h3 with rfl | ⟨b, o, e, h3⟩
  · simp at h0
  · rw [h1, e]
    exact tableCopy_ne l b o s.c w h3 hz hzs
set_option maxHeartbeats 4000000 in
theorem l3Copy_ne (l : List T8) (b o c : Nat) (w : World) (ht : Tb w b o l) (hz : l.length ≤ 1000) (hzs : ∀ i (h : i < l.length), l[i].slots.length ≤ 1000 ∧ l[i].queue.length ≤ 1000) :
    Calls Tryz.prog 39 #[.slice (some ⟨b, o, none⟩) l.length c] w (CopyPost l w) := by
  have HT := Lib.hid ht
  have HZ := Lib.hid hzs
  clear ht hzs
  unfold CopyPost
  go_enter Tryz.func39, Tryz.ntmps39
  go_wp2
  go_loopw [3, 4] (fun v i wr => ∃ (k : Nat) (ts : List Tr) (so : Sl), v = .slice so.a so.n so.c ∧ i = .int .i64 k ∧ k ≤ l.length ∧ ts.map (·.1) = l.take k ∧ TaW w.heap.size wr so ts ∧ Below w.heap.size w wr) (fun _ i _ => l.length - (intOf i).toNat)
  case atStart => exact ⟨0, [], ⟨some ⟨w.heap.size, 0, none⟩, 0, 0⟩, rfl, rfl, by omega, rfl, TaW.made w, (Below.refl _ _).alloc (Nat.le_refl _) _⟩
  case round =>
    obtain ⟨k, ts, so, rfl, rfl, hk, hts, T0, B0⟩ := hrel
    have HB0 := Lib.hid B0
    have HT0 := Lib.hid T0
    have HTS := Lib.hid hts
    have hw0 := B0.size
    have htl : ts.length ≤ 1000 := by
      have := congrArg List.length hts
      simp at this; omega
    clear B0 T0 hts
    by_cases hlt : k < l.length
    · have hlt' : (k : Int) < (l.length : Int) := by omega
      obtain ⟨ss, qs, hR, hQ, hA⟩ := (HT.out.stay HB0.out) k hlt
      have c0 : wr.cell? ⟨b, o + k * 8, none⟩ = some (.int .i64 (l[k]).kind) := hA 0 _ rfl
      have c1 : wr.cell? ⟨b, o + k * 8 + 1, none⟩ = some (.int .i64 (l[k]).sec) := hA 1 _ rfl
      have c2 : wr.cell? ⟨b, o + k * 8 + 2, none⟩ = some (.int .i64 (l[k]).vou) := hA 2 _ rfl
      have c3 : wr.cell? ⟨b, o + k * 8 + 3, none⟩ = some (.int .i64 (l[k]).vers) := hA 3 _ rfl
      have c4 : wr.cell? ⟨b, o + k * 8 + 4, none⟩ = some (.int .i64 (l[k]).num) := hA 4 _ rfl
      have c5 : wr.cell? ⟨b, o + k * 8 + 5, none⟩ = some (.slice ss.a ss.n ss.c) := hA 5 _ rfl
      have c6 : wr.cell? ⟨b, o + k * 8 + 6, none⟩ = some (.slice qs.a qs.n qs.c) := hA 6 _ rfl
      have c7 : wr.cell? ⟨b, o + k * 8 + 7, none⟩ = some (.int .i64 (l[k]).to) := hA 7 _ rfl
      have HZK := Lib.hid (HZ.out k hlt)
      obtain ⟨Y, hY⟩ : ∃ Y, wr.alloc (.cells (T8.cs l[k] ss qs) 40) = Y := ⟨_, rfl⟩
      have bY : Box Y wr.heap.size 40 (T8.cs l[k] ss qs) := hY ▸ Box.fresh _ _ _
      have dY : Below wr.heap.size wr Y := hY ▸ (Below.refl _ _).alloc (Nat.le_refl _) _
      have zY : Y.heap.size = wr.heap.size + 1 := by rw [← hY]; simp
      obtain ⟨YL, hYL⟩ : ∃ YL, Y.alloc (.cells #[] 34) = YL := ⟨_, rfl⟩
      have dL : Below wr.heap.size wr YL := hYL ▸ dY.alloc (by omega) _
      have bL : Box YL wr.heap.size 40 (T8.cs l[k] ss qs) := hYL ▸ bY.past _
      have zL : YL.heap.size = Y.heap.size + 1 := by rw [← hYL]; simp
      have oL : OwnF R5.cs 5 34 Y.heap.size YL ⟨some ⟨Y.heap.size, 0, none⟩, 0, 0⟩ [] := hYL ▸ OwnF.made R5.cs 5 34 Y
      obtain ⟨s1, W2, hr1, o1, b1, z1, k1⟩ := copyR Y.heap.size YL ⟨some ⟨Y.heap.size, 0, none⟩, 0, 0⟩ [] oL (by omega) (by simp) ss l[k].slots (hR.stay dL) (by have := HZK.out; omega) 37
      have d2 : Below wr.heap.size wr W2 := dL.trans (b1.mono (by omega))
      have x2 := k1 _ _ _ (by decide) bL
      have eY5 := bL.cell 5 _ rfl
      have e25 := x2.cell 5 _ rfl
      have f25 := x2.thaw 5
      obtain ⟨Y3, hY3⟩ : ∃ Y3, W2.setCell ⟨wr.heap.size, 5, none⟩ (.slice s1.a s1.n s1.c) = Y3 := ⟨_, rfl⟩
      have z3 : Y3.heap.size = W2.heap.size := by rw [← hY3]; simp [World.setCell]
      have x3 : Box Y3 wr.heap.size 40 (T8.cs l[k] s1 qs) := by rw [← hY3, ← put5s l[k] ss qs s1]; exact x2.put 5 _
      have d3 : Below wr.heap.size wr Y3 := by rw [← hY3]; exact d2.setCell (p := ⟨wr.heap.size, 5, none⟩) (Nat.le_refl _) _
      have o3 : OwnR wr.heap.size Y3 s1 l[k].slots := by
        have := (o1.row (Tp := TyR) (.inl rfl)).less (n0 := wr.heap.size) (by omega)
        rw [List.nil_append] at this
        rw [← hY3]
        exact this.keep fun b T cs _ hT _ _ bx => bx.other (Box.ne bx x2 hT.neT) _
      have e36 := x3.cell 6 _ rfl
      obtain ⟨YM, hYM⟩ : ∃ YM, Y3.alloc (.cells #[] 3) = YM := ⟨_, rfl⟩
      have dM : Below wr.heap.size wr YM := hYM ▸ d3.alloc (by omega) _
      have bM : Box YM wr.heap.size 40 (T8.cs l[k] s1 qs) := hYM ▸ x3.past _
      have zM : YM.heap.size = Y3.heap.size + 1 := by rw [← hYM]; simp
      have oM : OwnF qC 1 3 Y3.heap.size YM ⟨some ⟨Y3.heap.size, 0, none⟩, 0, 0⟩ [] := hYM ▸ OwnF.made qC 1 3 Y3
      have oR : OwnR wr.heap.size YM s1 l[k].slots := hYM ▸ o3.keep fun b T cs _ hT _ _ bx => bx.past _
      have eM6 := bM.cell 6 _ rfl
      obtain ⟨q1, W4, hr4, o4, b4, z4, k4⟩ := copyQ Y3.heap.size YM ⟨some ⟨Y3.heap.size, 0, none⟩, 0, 0⟩ [] oM (by omega) (by simp) qs l[k].queue (hQ.stay dM) (by have := HZK.out; omega) 38
      have d4 : Below wr.heap.size wr W4 := dM.trans (b4.mono (by omega))
      have x4 := k4 _ _ _ (by decide) bM
      have r4 : OwnR wr.heap.size W4 s1 l[k].slots := oR.keep fun b T cs _ hT _ _ bx => k4 _ _ _ (hT.neQ rfl) bx
      have e46 := x4.cell 6 _ rfl
      have f46 := x4.thaw 6
      obtain ⟨Y5, hY5⟩ : ∃ Y5, W4.setCell ⟨wr.heap.size, 6, none⟩ (.slice q1.a q1.n q1.c) = Y5 := ⟨_, rfl⟩
      have z5 : Y5.heap.size = W4.heap.size := by rw [← hY5]; simp [World.setCell]
      have x5 : Box Y5 wr.heap.size 40 (T8.cs l[k] s1 q1) := by rw [← hY5, ← put6q l[k] s1 qs q1]; exact x4.put 6 _
      have d5 : Below wr.heap.size wr Y5 := by rw [← hY5]; exact d4.setCell (p := ⟨wr.heap.size, 6, none⟩) (Nat.le_refl _) _
      have th5 : ThW wr.heap.size Y5 (l[k], s1, q1) := by
        rw [← hY5]
        refine ⟨r4.keep fun b T cs _ hT _ _ bx => bx.other (Box.ne bx x4 hT.neT) _, ?_⟩
        have := (o4.row (Tp := TyQ) rfl).less (n0 := wr.heap.size) (by omega)
        rw [List.nil_append] at this
        exact this.keep fun b T cs _ hT _ _ bx => bx.other (Box.ne bx x4 hT.neT) _
      have g0 := x5.cell 0 _ rfl
      have g1 := x5.cell 1 _ rfl
      have g2 := x5.cell 2 _ rfl
      have g3 := x5.cell 3 _ rfl
      have g4 := x5.cell 4 _ rfl
      have g5 := x5.cell 5 _ rfl
      have g6 := x5.cell 6 _ rfl
      have g7 := x5.cell 7 _ rfl
      obtain ⟨s6, W6, hr6, t6, b6, z6, -⟩ := moreT w.heap.size Y5 so ts (HT0.out.stay d5) (by omega) htl (l[k], s1, q1) (th5.less hw0) (fun j t hj => ((HT0.out.get hj).apart th5 (Nat.le_refl _)).symm) 23
      have D6 := Lib.hid ((HB0.out.trans (d5.mono hw0)).trans b6)
      have T6 := Lib.hid t6
      clear t6 b6 z6 th5 d5 x5 z5 d4 x4 r4 o4 b4 z4 k4 o3 d3 x3 z3 x2 d2 b1 o1 z1 k1 dY bY zY hR hQ hA HT0 dL bL zL oL dM bM zM oM oR
      go_wp2_with (first
        | refine wpList_append_run rfl (.tmp 17) (.tmp 19) 37 rfl (.slice (some ⟨Y.heap.size, 0, none⟩) 0 0) (.slice ss.a ss.n ss.c) rfl rfl (.slice s1.a s1.n s1.c) W2 hr1 ?_
        | refine wpList_append_run rfl (.tmp 22) (.tmp 24) 38 rfl (.slice (some ⟨Y3.heap.size, 0, none⟩) 0 0) (.slice qs.a qs.n qs.c) rfl rfl (.slice q1.a q1.n q1.c) W4 hr4 ?_
        | refine wpList_append_run rfl (.tmp 27) (.tmp 29) 23 rfl (.slice so.a so.n so.c) (.slice (some ⟨Y5.heap.size, 0, none⟩) 1 1) rfl rfl (.slice s6.a s6.n s6.c) W6 hr6 ?_)
      go_roundw
      case rel => exact ⟨k + 1, ts ++ [(l[k], s1, q1)], s6, rfl, by go_num, by omega, take_more hlt HTS.out s1 q1, T6.out, D6.out⟩
      case measure => simp [intOf]; omega
    · have hlt' : ¬ (k : Int) < (l.length : Int) := by omega
      have HJ := Lib.hid (show k = l.length by omega)
      go_wp2
      go_ret
      refine ⟨so, rfl, ts, HT0.out, ?_, HB0.out⟩
      rw [HTS.out, HJ.out, List.take_length]
theorem l3Copy_any (l : List T8) (s : Sl) (w : World) (ht : HasT w s l) (h0 : 0 < l.length) (hz : l.length ≤ 1000) (hzs : ∀ i (h : i < l.length), l[i].slots.length ≤ 1000 ∧ l[i].queue.length ≤ 1000) :
    Calls Tryz.prog 39 #[.slice s.a s.n s.c] w (CopyPost l w) := by
  obtain ⟨h1, h2, h3⟩ := ht
  rcases h3 with rfl | ⟨b, o, e, h3⟩
  · simp at h0
  · rw [h1, e]
    exact l3Copy_ne l b o s.c w h3 hz hzs
end Go.Proofs.YtbopficnajdaoaaGreatDoor

namespace Go.Proofs.YtbopficnajdaoaaGreatDoor
open Go.RowKit
set_option maxRecDepth 100000
set_option linter.unusedVariables false

theorem act_lab {l : List T8} {c : C5} (h : OkC l c) {i : Nat} (hi : i < l.length) : ((actV l c).1[i]'(by rw [act_len]; exact hi)).sec = l[i].sec ∧ ((actV l c).1[i]'(by rw [act_len]; exact hi)).vou = l[i].vou := by
  obtain ⟨jr, hjr, hcr, -, -⟩ := h.run
  have hs := do_same h hi
  by_cases e : i = jr
  · subst e
    rw [do_run hi hcr] at hs
    exact ⟨hs.2.1, hs.2.2.1⟩
  · rw [do_obj h hjr hcr hi e] at hs
    exact ⟨hs.2.1, hs.2.2.1⟩
theorem deed_up {n0 : Nat} {w V y : World} {s : Sl} {ts : List Tr} {a : Int} {e : Ending} (hb : Below w.heap.size w V) (hn : n0 ≤ w.heap.size) (h : DeedPost n0 V s ts a e y) : DeedPost n0 w s ts a e y :=
  ⟨h.1, h.2.1, (hb.mono hn).trans h.2.2.1, Nat.le_trans hb.size h.2.2.2.1, fun b T cs hlt hN kx => h.2.2.2.2 b T cs (Nat.lt_of_lt_of_le hlt hb.size) hN (kx.stay hb)⟩
theorem deed_same {n0 : Nat} {w V : World} {s : Sl} {ts : List Tr} {a : Int} (hT : TaW n0 V s ts) (hb : Below w.heap.size w V) (hn : n0 ≤ w.heap.size) : DeedPost n0 w s ts a (.returned (.int .i64 a)) V :=
  ⟨rfl, hT, hb.mono hn, hb.size, fun b T cs _ _ kx => kx.stay hb⟩
theorem nC : ¬ TyA 25 := by unfold TyA TyR TyQ; decide
set_option maxHeartbeats 8000000 in
theorem execute_at (n0 : Nat) (ts : List Tr) (l : List T8) (g N sc : Nat) (ck : Int) (jr ja jb : Nat) (cn : Int) (rt rv : Int) (rr rw_ rk : Bool) (tc : T8) (ta tcp : Nat) (tq : Sl) (w : World) (hT : TaW n0 w ⟨some ⟨g, 0, none⟩, N, sc⟩ ts) (hts : ts.map (·.1) = l) (hn : n0 ≤ w.heap.size) (hN : l.length = N) (h8 : N ≤ 8) (hf : KF w)
    (h : OkC l ⟨ck, (jr : Int) + 1, (ja : Int), (jb : Int), cn⟩) (h0 : chkV l ⟨ck, (jr : Int) + 1, (ja : Int), (jb : Int), cn⟩ = 0) (hjr : jr < N) (hja : ja < 4) (ht : ts[jr]? = some (tc, ⟨some ⟨ta, 0, none⟩, 4, tcp⟩, tq)) (hr : rOf l ⟨ck, (jr : Int) + 1, (ja : Int), (jb : Int), cn⟩ = ⟨rt, rv, rr, rw_, rk⟩) (hx : tc.slots[ja]? = some ⟨rt, rv, rr, rw_, rk⟩) (hjb : jb < 4) (yb : R5) (hyb : tc.slots[jb]? = some yb) (htc : l[jr]? = some tc) :
    Calls Tryz.prog 42 #[.slice (some ⟨g, 0, none⟩) N sc, .agg #[.int .i64 ck, .int .i64 ((jr : Int) + 1), .int .i64 (ja : Int), .int .i64 (jb : Int), .int .i64 cn]] w (FarPost n0 w ⟨some ⟨g, 0, none⟩, N, sc⟩ (actV l ⟨ck, (jr : Int) + 1, (ja : Int), (jb : Int), cn⟩)) := by
  obtain ⟨Y, hY⟩ : ∃ Y, w.alloc (.cells (C5.cs ⟨ck, (jr : Int) + 1, (ja : Int), (jb : Int), cn⟩) 25) = Y := ⟨_, rfl⟩
  have KC := (Kn.refl (w := w)).new 25 (C5.cs ⟨ck, (jr : Int) + 1, (ja : Int), (jb : Int), cn⟩)
  rw [hY] at KC
  have t1 := hT.stay KC.1
  have bC := KC.box (b := w.heap.size) (T := 25) (vs := C5.cs ⟨ck, (jr : Int) + 1, (ja : Int), (jb : Int), cn⟩) (by simp)
  have c0 := bC.cell 0 _ rfl
  have c1 := bC.cell 1 _ rfl
  have c2 := bC.cell 2 _ rfl
  have c3 := bC.cell 3 _ rfl
  have c4 := bC.cell 4 _ rfl
  have d5 := t1.at rfl ht 5 _ rfl
  have hra := (t1.get ht).1.at szR rfl hx
  have ra0 := hra 0 _ rfl
  rw [Nat.add_zero] at ra0
  have ra1 := hra 1 _ rfl
  have ra2 := hra 2 _ rfl
  have ra3 := hra 3 _ rfl
  have ra4 := hra 4 _ rfl
  have bA : Below Y.heap.size Y (Y.alloc (.cells #[.slice none 0 0, .int .i64 0, .int .i64 0, .int .i64 0, .int .i64 0, .int .i64 0, .pointer none, .int .i64 0, .int .i64 0, .bool false, .bool false, .bool false, .pointer none] 88)) := (Below.refl _ _).alloc (Nat.le_refl _) _
  have xd5 := stayCell d5 bA
  have xa0 := stayCell ra0 bA
  have xa1 := stayCell ra1 bA
  have xa2 := stayCell ra2 bA
  have xa3 := stayCell ra3 bA
  have xa4 := stayCell ra4 bA
  have xc0 := stayCell c0 bA
  have xc1 := stayCell c1 bA
  have xc2 := stayCell c2 bA
  have xc3 := stayCell c3 bA
  have xc4 := stayCell c4 bA
  clear bA hra
  obtain ⟨Y1, hY1⟩ : ∃ Y1, (Y.drew).alloc (.cells (deedC ⟨some ⟨g, 0, none⟩, N, sc⟩ ⟨ck, (jr : Int) + 1, (ja : Int), (jb : Int), cn⟩ (ptr g jr) ⟨rt, rv, rr, rw_, rk⟩ (.pointer none)) 88) = Y1 := ⟨_, rfl⟩
  have b1 : Below Y.heap.size Y Y1 := hY1 ▸ ((Below.refl _ _).drew).alloc (Nat.le_refl _) _
  have bD : Box Y1 Y.heap.size 88 (deedC ⟨some ⟨g, 0, none⟩, N, sc⟩ ⟨ck, (jr : Int) + 1, (ja : Int), (jb : Int), cn⟩ (ptr g jr) ⟨rt, rv, rr, rw_, rk⟩ (.pointer none)) := by
    have := Box.fresh Y.drew 88 (deedC ⟨some ⟨g, 0, none⟩, N, sc⟩ ⟨ck, (jr : Int) + 1, (ja : Int), (jb : Int), cn⟩ (ptr g jr) ⟨rt, rv, rr, rw_, rk⟩ (.pointer none))
    rw [hY1] at this
    exact this
  have hj2 : (jr : Int) < (N : Int) := by omega
  have hj3 : (ja : Int) < 4 := by omega
  have hk9 := Lib.hid (C5.bd h.2).1
  have T0 := Lib.hid t1
  have WY := Lib.hid KC.1
  have BC := Lib.hid bC
  have B1 := Lib.hid b1
  have BD := Lib.hid bD
  have HT := Lib.hid ht
  have HTS := Lib.hid hts
  have HN := Lib.hid hN
  have HF := Lib.hid (hf.stay KC.1)
  have HH := Lib.hid h
  have H0 := Lib.hid h0
  have HR := Lib.hid hr
  have HX := Lib.hid hx
  have HYB := Lib.hid hyb
  have HTC := Lib.hid htc
  clear KC hT t1 bC b1 bD ht hts hf h h0 hr hx hN hyb htc
  go_enter Tryz.func42, Tryz.ntmps42
  go_upto_region 2 with fail
  go_cut [6] (fun sl wx => sl = .pointer (some ⟨Y.heap.size, 0, none⟩) ∧ wx = Y1)
  case first =>
    go_region
    all_goals
      go_wp2_with fail
      go_meet
      first | exact ⟨rfl, rfl⟩ | exact ⟨rfl, hY1⟩
  case rest =>
    obtain ⟨rfl, rfl⟩ := hcut
    clear c0 c1 c2 c3 c4 d5 ra0 ra1 ra2 ra3 ra4 xd5 xa0 xa1 xa2 xa3 xa4 xc0 xc1 xc2 xc3 xc4 hY1
    have bC1 := BC.out.stay B1.out
    have c0 := bC1.cell 0 _ rfl
    clear bC1
    go_wp2_with fail
    refine (actOf_any ck hk9.out _).mono ?_
    rintro e y2 ⟨rfl, hb⟩
    have B2 := Lib.hid (B1.out.trans (hb.mono B1.out.size))
    have BD2 := Lib.hid (BD.out.stay hb)
    have bC2 := BC.out.stay B2.out
    have e0 := bC2.cell 0 _ rfl
    clear hb bC2 c0 B1 BD
    by_cases h3 : ck = 3
    · subst h3
      have m0 := BD2.out.cell 0 _ rfl
      have m1 := BD2.out.cell 1 _ rfl
      have m2 := BD2.out.cell 2 _ rfl
      have m3 := BD2.out.cell 3 _ rfl
      have m4 := BD2.out.cell 4 _ rfl
      have m5 := BD2.out.cell 5 _ rfl
      have m6 := BD2.out.cell 6 _ rfl
      have m7 := BD2.out.cell 7 _ rfl
      have m8 := BD2.out.cell 8 _ rfl
      have m9 := BD2.out.cell 9 _ rfl
      have m10 := BD2.out.cell 10 _ rfl
      have m11 := BD2.out.cell 11 _ rfl
      have m12 := BD2.out.cell 12 _ rfl
      have HFN := Lib.hid (show fnOf 3 = 92 from rfl)
      rw [HFN.out]
      have HCN := Lib.hid (C5.bd HH.out.2).2.2.2.2
      go_wp2_with fail
      refine (deedCopy n0 ⟨some ⟨g, 0, none⟩, N, sc⟩ ts 3 ((jr : Int) + 1) (ja : Int) jb cn ⟨rt, rv, rr, rw_, rk⟩ g jr (.pointer none) tc ta tcp tq y2 (T0.out.stay B2.out) (by have := WY.out.size; have := B2.out.size; omega) rfl HT.out yb HYB.out hjb HCN.out).mono ?_
      intro e y3 hP
      obtain ⟨rfl, hP2⟩ := hP
      have HP := Lib.hid (deed_up (WY.out.trans (B2.out.mono WY.out.size)) hn (show DeedPost n0 y2 ⟨some ⟨g, 0, none⟩, N, sc⟩ _ 0 (.returned (.int .i64 0)) y3 from ⟨rfl, hP2⟩))
      clear hP2 m0 m1 m2 m3 m4 m5 m6 m7 m8 m9 m10 m11 m12 e0
      go_wp2
      go_ret
      refine far_of ?_ HP.out
      have hjl : jr < l.length := by have := HN.out; omega
      rw [act_copy HH.out rfl, map_set1 HTS.out, (run_at HH.out hjl rfl).1, setTh_at, HR.out, show l[jr] = tc from Option.some.inj ((List.getElem?_eq_getElem hjl).symm.trans HTC.out)]
      simp
    · have h3' : (ck == 3) = false := by simpa using h3
      obtain ⟨v, hv⟩ : ∃ v, tabLive l ⟨rt, rv, rr, rw_, rk⟩ = v := ⟨_, rfl⟩
      have HV := Lib.hid hv
      have H3 := Lib.hid h3
      have HLB := Lib.hid (show liveB l (rOf l ⟨ck, (jr : Int) + 1, (ja : Int), (jb : Int), cn⟩) = v by rw [← liveB_tab HH.out, HR.out]; exact hv)
      clear hv h3
      have m0 := BD2.out.cell 0 _ rfl
      have m1 := BD2.out.cell 1 _ rfl
      have m2 := BD2.out.cell 2 _ rfl
      have m3 := BD2.out.cell 3 _ rfl
      have m4 := BD2.out.cell 4 _ rfl
      have m5 := BD2.out.cell 5 _ rfl
      have m6 := BD2.out.cell 6 _ rfl
      have m7 := BD2.out.cell 7 _ rfl
      have m8 := BD2.out.cell 8 _ rfl
      have m9 := BD2.out.cell 9 _ rfl
      have m10 := BD2.out.cell 10 _ rfl
      have m11 := BD2.out.cell 11 _ rfl
      have m12 := BD2.out.cell 12 _ rfl
      have HTT := Lib.hid (show HasT y2 ⟨some ⟨g, 0, none⟩, N, sc⟩ l from HTS.out ▸ (T0.out.stay B2.out).hasT)
      go_wp2_with fail
      refine (implTabLive_val' (s := ⟨some ⟨g, 0, none⟩, N, sc⟩) (r := ⟨rt, rv, rr, rw_, rk⟩) HV.out _ HTT.out (HF.out.stay B2.out) (by have := HN.out; omega)).mono ?_
      rintro e y3 ⟨rfl, hb⟩
      have B3 := Lib.hid (B2.out.trans (hb.mono B2.out.size))
      have BD3 := Lib.hid (BD2.out.stay hb)
      clear hb m0 m1 m2 m3 m4 m5 m6 m7 m8 m9 m10 m11 m12 e0 B2 BD2 HTT
      cases v
      · go_wp2
        go_ret
        refine far_of ?_ (deed_same (T0.out.stay B3.out) (WY.out.trans (B3.out.mono WY.out.size)) hn)
        rw [act_dead H0.out H3.out HLB.out, HTS.out]
      · obtain ⟨jo, hjo, hro, hto, hko⟩ := obj_of H0.out H3.out
        have hrt : rt = (jo : Int) + 1 := by have := hro; rw [HR.out] at this; exact this
        subst hrt
        have HJO := Lib.hid hjo
        have HRO := Lib.hid hro
        have hjoN : (jo : Int) < (N : Int) := by have := HN.out; omega
        clear hjo hro hto hko
        have m7 := BD3.out.cell 7 _ rfl
        have m12 := BD3.out.cell 12 _ rfl
        have f12 := BD3.out.thaw 12
        obtain ⟨V, hV⟩ : ∃ V, y3.setCell ⟨Y.heap.size, 12, none⟩ (ptr g jo) = V := ⟨_, rfl⟩
        have bV : Box V Y.heap.size 88 (deedC ⟨some ⟨g, 0, none⟩, N, sc⟩ ⟨ck, (jr : Int) + 1, (ja : Int), (jb : Int), cn⟩ (ptr g jr) ⟨(jo : Int) + 1, rv, rr, rw_, rk⟩ (ptr g jo)) := by
          have := BD3.out.put 12 (ptr g jo)
          rw [hV] at this
          simpa using this
        have hVb : Below Y.heap.size Y V := hV ▸ B3.out.setCell (p := ⟨Y.heap.size, 12, none⟩) (Nat.le_refl _) _
        have nn0 := bV.cell 0 _ rfl
        have nn1 := bV.cell 1 _ rfl
        have nn2 := bV.cell 2 _ rfl
        have nn3 := bV.cell 3 _ rfl
        have nn4 := bV.cell 4 _ rfl
        have nn5 := bV.cell 5 _ rfl
        have nn6 := bV.cell 6 _ rfl
        have nn7 := bV.cell 7 _ rfl
        have nn8 := bV.cell 8 _ rfl
        have nn9 := bV.cell 9 _ rfl
        have nn10 := bV.cell 10 _ rfl
        have nn11 := bV.cell 11 _ rfl
        have nn12 := bV.cell 12 _ rfl
        have BV := Lib.hid bV
        have HVB := Lib.hid hVb
        clear bV hVb
        have hdf := deed_far n0 ⟨some ⟨g, 0, none⟩, N, sc⟩ ts l ⟨ck, (jr : Int) + 1, (ja : Int), (jb : Int), cn⟩ g jr jo V (T0.out.stay HVB.out) HTS.out (by have := WY.out.size; have := HVB.out.size; omega) rfl (HF.out.stay HVB.out) HH.out H0.out H3.out (by have := HN.out; omega) rfl HJO.out HRO.out
        rw [HR.out] at hdf
        have HDF := Lib.hid hdf
        clear hdf
        go_upto_region 9 with fail
        go_cut [8] (fun sl wx => ∃ ts', sl = .int .i64 (farV l ⟨ck, (jr : Int) + 1, (ja : Int), (jb : Int), cn⟩ ⟨(jo : Int) + 1, rv, rr, rw_, rk⟩).2 ∧ DeedPost n0 V ⟨some ⟨g, 0, none⟩, N, sc⟩ ts' (farV l ⟨ck, (jr : Int) + 1, (ja : Int), (jb : Int), cn⟩ ⟨(jo : Int) + 1, rv, rr, rw_, rk⟩).2 (.returned (.int .i64 (farV l ⟨ck, (jr : Int) + 1, (ja : Int), (jb : Int), cn⟩ ⟨(jo : Int) + 1, rv, rr, rw_, rk⟩).2)) wx ∧ ts'.map (·.1) = (farV l ⟨ck, (jr : Int) + 1, (ja : Int), (jb : Int), cn⟩ ⟨(jo : Int) + 1, rv, rr, rw_, rk⟩).1)
        case first =>
          have hk8 := eight (show inR ck 1 9 = true by have := hk9.out; simp [inR]; omega) H3.out
          obtain ⟨fa, hfa⟩ : ∃ fa, farV l ⟨ck, (jr : Int) + 1, (ja : Int), (jb : Int), cn⟩ ⟨(jo : Int) + 1, rv, rr, rw_, rk⟩ = fa := ⟨_, rfl⟩
          rw [hfa] at HDF
          have HFA := Lib.hid hfa
          clear hfa
          rcases hk8 with rfl | rfl | rfl | rfl | rfl | rfl | rfl | rfl
          all_goals
            go_wp2_with fail
            refine HDF.out.mono ?_
            rintro e y4 ⟨ts', hP, hm⟩
            obtain ⟨rfl, hP2⟩ := hP
            have HP2 := Lib.hid hP2
            have HM2 := Lib.hid hm
            clear hP2 hm
            go_wp2_with fail
            go_meet
            rw [HFA.out]
            exact ⟨ts', rfl, ⟨rfl, HP2.out⟩, HM2.out⟩
        case rest =>
        obtain ⟨ts', rfl, hP, hm⟩ := hcut
        obtain ⟨-, hP2⟩ := hP
        obtain ⟨y4, hy4⟩ : ∃ y4, y4 = wc := ⟨_, rfl⟩
        subst hy4
        have hact := act_far H0.out H3.out HLB.out
        rw [HR.out] at hact
        have hjl : jr < l.length := by have := HN.out; omega
        have hm' : ts'.map (·.1) = (actV l ⟨ck, (jr : Int) + 1, (ja : Int), (jb : Int), cn⟩).1 := by rw [hact, hm]
        have hla : (actV l ⟨ck, (jr : Int) + 1, (ja : Int), (jb : Int), cn⟩).1.length = l.length := act_len _ _
        obtain ⟨t', ht', et'⟩ := row_get hm' (j := jr) (by rw [hla]; exact hjl)
        obtain ⟨u', hu', eu'⟩ := row_get hm' (j := jo) (by rw [hla]; exact HJO.out)
        have HSV := Lib.hid (show seesT t'.1 u'.1 = seesT (thAt l ((jr : Int) + 1)) (thAt l ((jo : Int) + 1)) by
          rw [thAt_of hjl (show (jr : Int) + 1 - 1 = jr by omega), thAt_of HJO.out (show (jo : Int) + 1 - 1 = jo by omega), et', eu']
          exact seesT_eq (act_lab HH.out hjl).1 (act_lab HH.out hjl).2 (act_lab HH.out HJO.out).1 (act_lab HH.out HJO.out).2)
        have HACT := Lib.hid hact
        have HM := Lib.hid hm
        obtain ⟨tP, bP, zP, kP⟩ := hP2
        have bD4 := kP Y.heap.size 88 (deedC ⟨some ⟨g, 0, none⟩, N, sc⟩ ⟨ck, (jr : Int) + 1, (ja : Int), (jb : Int), cn⟩ (ptr g jr) ⟨(jo : Int) + 1, rv, rr, rw_, rk⟩ (ptr g jo)) BV.out.lt (.inl nD) BV.out
        have HPB := Lib.hid (deed_up (WY.out.trans (HVB.out.mono WY.out.size)) hn (show DeedPost n0 V ⟨some ⟨g, 0, none⟩, N, sc⟩ ts' 0 (.returned (.int .i64 0)) y4 from ⟨rfl, tP, bP, zP, kP⟩))
        have TP := Lib.hid tP
        have q12 := bD4.cell 12 _ rfl
        have htt := tP.at rfl ht'
        have huu := tP.at rfl hu'
        have p0 := htt 0 _ rfl
        rw [Nat.add_zero] at p0
        have p1 := htt 1 _ rfl
        have p2 := htt 2 _ rfl
        have p3 := htt 3 _ rfl
        have p4 := htt 4 _ rfl
        have p5 := htt 5 _ rfl
        have p6 := htt 6 _ rfl
        have p7 := htt 7 _ rfl
        have o0 := huu 0 _ rfl
        rw [Nat.add_zero] at o0
        have o1 := huu 1 _ rfl
        have o2 := huu 2 _ rfl
        have o3 := huu 3 _ rfl
        have o4 := huu 4 _ rfl
        have o5 := huu 5 _ rfl
        have o6 := huu 6 _ rfl
        have o7 := huu 7 _ rfl
        obtain ⟨ans, hans⟩ : ∃ ans, (farV l ⟨ck, (jr : Int) + 1, (ja : Int), (jb : Int), cn⟩ ⟨(jo : Int) + 1, rv, rr, rw_, rk⟩).2 = ans := ⟨_, rfl⟩
        rw [hans]
        have HANS := Lib.hid hans
        clear HDF m7 m12 f12 nn0 nn1 nn2 nn3 nn4 nn5 nn6 nn7 nn8 nn9 nn10 nn11 nn12 tP bP zP kP bD4 htt huu hact hm hm' ht' hu' et' eu' hla hans
        obtain ⟨tc', ts1, tq1⟩ := t'
        obtain ⟨uc', us1, uq1⟩ := u'
        obtain ⟨sv, hsv⟩ : ∃ sv, seesT tc' uc' = sv := ⟨_, rfl⟩
        have HSV2 := Lib.hid hsv
        clear hsv
        go_upto_region 10 with fail
        go_cut [58] (fun sl wx => sl = .bool (!sv) ∧ Below y4.heap.size y4 wx)
        case first =>
          go_region_with (go_at_call 49; refine (observes_any tc' uc' ts1 tq1 us1 uq1 _).mono ?_; rintro e y5 ⟨rfl, hb5⟩; have HB5 := Lib.hid hb5; clear hb5)
          all_goals
            go_wp2_with fail
            go_meet
            refine ⟨by rw [HSV2.out], ((Below.refl y4.heap.size y4).drew).trans HB5.out⟩
        case rest =>
          obtain ⟨rfl, hb6⟩ := hcut
          have TF := Lib.hid (TP.out.stay hb6)
          have FIN := Lib.hid (show ∀ a : Int, DeedPost n0 w ⟨some ⟨g, 0, none⟩, N, sc⟩ ts' a (.returned (.int .i64 a)) wc from fun a => ⟨rfl, TF.out, HPB.out.2.2.1.trans (hb6.mono (by have := HPB.out.2.2.2.1; omega)), Nat.le_trans HPB.out.2.2.2.1 hb6.size, fun b T cs hlt hN kx => (HPB.out.2.2.2.2 b T cs hlt hN kx).stay hb6⟩)
          have HS3 := Lib.hid (HSV.out.symm.trans HSV2.out)
          clear hb6 q12 p0 p1 p2 p3 p4 p5 p6 p7 o0 o1 o2 o3 o4 o5 o6 o7
          cases sv
          · go_wp2
            go_ret
            refine far_of ?_ (FIN.out 0)
            rw [HACT.out, HM.out]
            simp [HS3.out]
          · go_wp2
            go_ret
            refine far_of ?_ (FIN.out ans)
            rw [HACT.out, HM.out]
            simp [HS3.out, HANS.out]
theorem execute_any (n0 : Nat) (s : Sl) (ts : List Tr) (l : List T8) (c : C5) (w : World) (hT : TaW n0 w s ts) (hts : ts.map (·.1) = l) (hn : n0 ≤ w.heap.size) (hf : KF w) (h : OkC l c) (h0 : chkV l c = 0) :
    Calls Tryz.prog 42 #[.slice s.a s.n s.c, .agg #[.int .i64 c.k, .int .i64 c.r, .int .i64 c.a, .int .i64 c.b, .int .i64 c.n]] w (FarPost n0 w s (actV l c)) := by
  obtain ⟨jr, hjr, hcr, hth, hkr⟩ := h.run
  have hll : ts.length = l.length := by rw [← hts]; simp
  obtain ⟨g, cur, hsa, -⟩ := hT.1.form (by omega)
  have hsn : s.n = l.length := by rw [hT.1.1]; exact hll
  obtain ⟨sa, sn, sc⟩ := s
  dsimp only at hsa hsn
  subst hsa hsn
  obtain ⟨t, ht, et⟩ := row_get hts hjr
  have l4 : l[jr].slots.length = 4 := node_slots (tab_okT h.tab hjr) (.inr hkr)
  obtain ⟨tc, ta, tcp, tq, rfl⟩ := four_of hT ht (by rw [et]; exact l4)
  dsimp only at et
  have hb := C5.bd h.2
  obtain ⟨ck, cr, ca, cb, cn⟩ := c
  dsimp only at *
  subst hcr
  obtain ⟨ja, rfl⟩ : ∃ ja : Nat, ca = ja := ⟨ca.toNat, by omega⟩
  obtain ⟨jb, rfl⟩ : ∃ jb : Nat, cb = jb := ⟨cb.toNat, by omega⟩
  have hja : ja < 4 := by omega
  have hjb : jb < 4 := by omega
  have l4' : tc.slots.length = 4 := by rw [et]; exact l4
  obtain ⟨r, hr⟩ : ∃ r, rOf l ⟨ck, (jr : Int) + 1, (ja : Int), (jb : Int), cn⟩ = r := ⟨_, rfl⟩
  have hx : tc.slots[ja]? = some r := by
    rw [← hr, et]
    unfold rOf
    dsimp only
    rw [hth, slotAt_of (j := ja) (by omega) rfl]
    exact List.getElem?_eq_getElem (by omega)
  obtain ⟨rt, rv, rr, rw_, rk⟩ := r
  exact execute_at n0 ts l g l.length sc ck jr ja jb cn rt rv rr rw_ rk tc ta tcp tq w hT hts hn rfl (tab_len h.tab).2 hf h h0 hjr hja ht hr hx hjb (tc.slots[jb]'(by omega)) (List.getElem?_eq_getElem _) (by rw [List.getElem?_eq_getElem hjr, et])
end Go.Proofs.YtbopficnajdaoaaGreatDoor

namespace Go.Proofs.YtbopficnajdaoaaGreatDoor
open Go.RowKit
set_option maxRecDepth 100000
set_option linter.unusedVariables false

theorem do_none {l : List T8} {c : C5} (h : ¬ OkC l c) {w w' : World} (hb : Below w.heap.size w w') : DoPost l c w (.returned (.tuple #[.slice none 0 0, .int .i64 (-1)])) w' :=
  ⟨⟨none, 0, 0⟩, [], by rw [callV_no h], TaW.nil _ _, by rw [callV_no h]; rfl, hb⟩
theorem tab_small {l : List T8} (h : tabOk l = true) : l.length ≤ 1000 ∧ ∀ i (hi : i < l.length), l[i].slots.length ≤ 1000 ∧ l[i].queue.length ≤ 1000 := by
  have := (tab_len h).2
  refine ⟨by omega, fun i hi => ?_⟩
  have h1 := okT_slots (tab_okT h hi)
  have h2 := (okT_queue (tab_okT h hi)).1
  omega
set_option maxHeartbeats 8000000 in
theorem implDo_any (l : List T8) (s : Sl) (c : C5) (w : World) (ht : HasT w s l) (hf : KF w) (he : ET w) (hz : l.length ≤ 1048576) :
    Calls Tryz.prog 22 #[.slice s.a s.n s.c, .agg #[.int .i64 c.k, .int .i64 c.r, .int .i64 c.a, .int .i64 c.b, .int .i64 c.n]] w (DoPost l c w) := by
  have HK0 := Lib.hid ((Kn.refl (w := w)).new 25 c.cs)
  have HT := Lib.hid ht
  have HF := Lib.hid hf
  have HE := Lib.hid he
  clear ht hf he
  go_enter Tryz.func22, Tryz.ntmps22
  go_wp2_with fail
  refine (caller_get l s c _ (HT.out.stay HK0.out.1) (HF.out.stay HK0.out.1) hz).mono ?_
  rintro e y1 ⟨z, ss, qs, b1, rfl, g1, g2, hb⟩
  have HK1' := Lib.hid (HK0.out.stay hb)
  have HK1 := Lib.hid ((HK0.out.stay hb).new 40 (z.cs ss qs))
  have GG := Lib.hid g1
  clear hb HK0 g1 g2
  have lt1 := (HK1'.out.box (b := w.heap.size) (T := 25) (vs := c.cs) (by simp)).lt
  have c0 := HK1'.out.c (b := w.heap.size) (T := 25) (vs := c.cs) (by simp) 0 _ rfl
  have c1 := HK1'.out.c (b := w.heap.size) (T := 25) (vs := c.cs) (by simp) 1 _ rfl
  have c2 := HK1'.out.c (b := w.heap.size) (T := 25) (vs := c.cs) (by simp) 2 _ rfl
  have c3 := HK1'.out.c (b := w.heap.size) (T := 25) (vs := c.cs) (by simp) 3 _ rfl
  have c4 := HK1'.out.c (b := w.heap.size) (T := 25) (vs := c.cs) (by simp) 4 _ rfl
  clear HK1'
  cases b1
  · go_wp2
    refine bodyPost_ret (results_tmp2 Tryz.results22 _ _) rfl ?_
    exact do_none (fun h => by have := GG.out; rw [h.1, h.2] at this; cases this) HK1.out.1
  have hgg := GG.out.symm
  rw [Bool.and_eq_true] at hgg
  have G1 := Lib.hid hgg.1.symm
  have HV := Lib.hid hgg.2
  have HK2 := HK1
  obtain ⟨y2, hy2⟩ : ∃ y2, y1.alloc (.cells (z.cs ss qs) 40) = y2 := ⟨_, rfl⟩
  rw [hy2] at HK2
  clear HK1 c0 c1 c2 c3 c4 lt1 hgg
  have HO := Lib.hid (show OkC l c from ⟨G1.out.symm, HV.out⟩)
  clear G1 HV
  go_wp2_with fail
  refine (tableCopy_any l s _ (HT.out.stay HK2.out.1) (tab_len HO.out.tab).1 (tab_small HO.out.tab).1 (tab_small HO.out.tab).2).mono ?_
  rintro e y3 ⟨s', ts, rfl, t3, hts, hb⟩
  have T3 := Lib.hid t3
  have HTS := Lib.hid hts
  have HK3 := Lib.hid (HK2.out.stay hb)
  have hn3 : y2.heap.size ≤ y3.heap.size := hb.size
  have Z2 := Lib.hid HK2.out.1.size
  clear hb t3 hts HK2
  have c0 := HK3.out.c (b := w.heap.size) (T := 25) (vs := c.cs) (by simp) 0 _ rfl
  have c1 := HK3.out.c (b := w.heap.size) (T := 25) (vs := c.cs) (by simp) 1 _ rfl
  have c2 := HK3.out.c (b := w.heap.size) (T := 25) (vs := c.cs) (by simp) 2 _ rfl
  have c3 := HK3.out.c (b := w.heap.size) (T := 25) (vs := c.cs) (by simp) 3 _ rfl
  have c4 := HK3.out.c (b := w.heap.size) (T := 25) (vs := c.cs) (by simp) 4 _ rfl
  obtain ⟨v, hv⟩ : ∃ v, chkV l c = v := ⟨_, rfl⟩
  have HV := Lib.hid hv
  clear hv
  go_wp2_with fail
  refine (implCheck_val (s := s') HV.out _ (HTS.out ▸ T3.out.hasT) (HF.out.stay HK3.out.1) (HE.out.stay HK3.out.1) hz).mono ?_
  rintro e y4 ⟨rfl, hb⟩
  have T4 := Lib.hid (T3.out.stay hb)
  have HK4 := Lib.hid (HK3.out.stay hb)
  have hn4 : y2.heap.size ≤ y4.heap.size := Nat.le_trans hn3 hb.size
  clear hb T3 HK3 c0 c1 c2 c3 c4
  have c0 := HK4.out.c (b := w.heap.size) (T := 25) (vs := c.cs) (by simp) 0 _ rfl
  have c1 := HK4.out.c (b := w.heap.size) (T := 25) (vs := c.cs) (by simp) 1 _ rfl
  have c2 := HK4.out.c (b := w.heap.size) (T := 25) (vs := c.cs) (by simp) 2 _ rfl
  have c3 := HK4.out.c (b := w.heap.size) (T := 25) (vs := c.cs) (by simp) 3 _ rfl
  have c4 := HK4.out.c (b := w.heap.size) (T := 25) (vs := c.cs) (by simp) 4 _ rfl
  obtain ⟨A1, a2, hA⟩ : ∃ A1 a2, actV l c = (A1, a2) := ⟨_, _, rfl⟩
  have HA := Lib.hid hA
  clear hA
  go_upto_if 24 with fail
  go_cut [9] (fun sl wx => ∃ ts' : List Tr, sl = .int .i64 a2 ∧ TaW y2.heap.size wx s' ts' ∧ ts'.map (·.1) = A1 ∧ Below w.heap.size w wx ∧ Box wx w.heap.size 25 c.cs)
  case first =>
    by_cases h0 : v = 0
    · subst h0
      go_wp2_with fail
      refine (execute_any y2.heap.size s' ts l c y4 T4.out HTS.out hn4 (HF.out.stay HK4.out.1) HO.out HV.out).mono ?_
      rintro e y5 ⟨ts', hP, hm⟩
      obtain ⟨rfl, t5, b5, z5, k5⟩ := hP
      rw [HA.out] at hm ⊢
      have REL := Lib.hid (show ∃ ts' : List Tr, TaW y2.heap.size y5 s' ts' ∧ ts'.map (·.1) = A1 ∧ Below w.heap.size w y5 ∧ Box y5 w.heap.size 25 c.cs from
        ⟨ts', t5, hm, HK4.out.1.trans (b5.mono Z2.out), k5 _ _ _ (HK4.out.box (b := w.heap.size) (T := 25) (vs := c.cs) (by simp)).lt (.inl nC) (HK4.out.box (b := w.heap.size) (T := 25) (vs := c.cs) (by simp))⟩)
      clear t5 b5 z5 k5 hm
      go_wp2_with fail
      go_meet
      obtain ⟨ts'', q1, q2, q3, q4⟩ := REL.out
      exact ⟨ts'', rfl, q1, q2, q3, q4⟩
    · have h0' : (v == 0) = false := by simpa using h0
      have hn := chk_neg HO.out (by rw [HV.out]; exact h0)
      have ha : actV l c = (l, v) := by unfold actV; rw [if_pos hn, HV.out]
      have e1 : A1 = l ∧ a2 = v := by have := HA.out.symm.trans ha; simp only [Prod.mk.injEq] at this; exact this
      have REL := Lib.hid (show ∃ ts' : List Tr, TaW y2.heap.size y4 s' ts' ∧ ts'.map (·.1) = A1 ∧ Below w.heap.size w y4 ∧ Box y4 w.heap.size 25 c.cs from
        ⟨ts, T4.out, by rw [e1.1]; exact HTS.out, HK4.out.1, HK4.out.box (b := w.heap.size) (T := 25) (vs := c.cs) (by simp)⟩)
      have EV := Lib.hid e1.2
      clear e1 ha hn
      go_wp2_with fail
      go_meet
      obtain ⟨ts'', q1, q2, q3, q4⟩ := REL.out
      exact ⟨ts'', by rw [EV.out], q1, q2, q3, q4⟩
  case rest =>
    obtain ⟨ts', rfl, t6, hm, hb6, bC⟩ := hcut
    clear c0 c1 c2 c3 c4
    obtain ⟨jr, hjr, hcr, hth, hkr⟩ := HO.out.run
    have c1 := bC.cell 1 _ rfl
    change wc.cell? ⟨w.heap.size, 1, none⟩ = some (.int .i64 c.r) at c1
    rw [hcr] at c1
    have hlA : A1.length = l.length := by have := act_len l c; rw [HA.out] at this; exact this
    have hlT : ts'.length = l.length := by have := congrArg List.length hm; simp at this; omega
    obtain ⟨g, cur, hsa, -⟩ := t6.1.form (by omega)
    have hsn : s'.n = l.length := by rw [t6.1.1]; exact hlT
    obtain ⟨sa, sn, sc⟩ := s'
    dsimp only at hsa hsn
    subst hsa hsn
    obtain ⟨t', ht', et'⟩ := row_get hm (j := jr) (by omega)
    have d4 := t6.at rfl ht' 4 _ rfl
    have f4 := t6.1.thaw rfl (jr * 8 + 4)
    obtain ⟨-, hg0, -⟩ := t6.1.blk (b := g) (o := 0) rfl
    have TF := Lib.hid (t6.num (g := g) rfl ht' a2)
    have BF := Lib.hid (hb6.setCell (p := ⟨g, jr * 8 + 4, none⟩) (Nat.le_trans Z2.out hg0) (.int .i64 a2))
    have HMF := Lib.hid (show (ts'.set jr ({ t'.1 with num := a2 }, t'.2)).map (·.1) = (doV l c).1 by
      have e2 : (actV l c).1 = A1 := by rw [HA.out]
      rw [map_set1 hm, do_first hjr hcr]
      simp only [HA.out]
      rw [et'])
    have HAN := Lib.hid (show (doV l c).2 = a2 by rw [do_snd, HA.out])
    have hj2 : (jr : Int) < (l.length : Int) := by omega
    have hl8 := (tab_len HO.out.tab).2
    obtain ⟨N, hN⟩ : ∃ N, l.length = N := ⟨_, rfl⟩
    rw [hN] at hj2 hl8 ⊢
    have HN := Lib.hid hN
    clear t6 hm hb6 bC ht' et' hg0 hth hkr hlA hlT hN hjr
    go_wp2
    refine bodyPost_ret (results_tmp2 Tryz.results22 _ _) rfl ?_
    refine ⟨⟨some ⟨g, 0, none⟩, l.length, sc⟩, _, ?_, TF.out.less Z2.out, ?_, BF.out⟩
    · rw [callV_ok HO.out, HAN.out, HN.out]; rfl
    · rw [callV_ok HO.out, HMF.out]
theorem implDo_val {l : List T8} {s : Sl} {c : C5} {x : List T8} {a : Int} (hv : callV l c = (x, a)) (w : World) (ht : HasT w s l) (hf : KF w) (he : ET w) (hz : l.length ≤ 1048576) :
    Calls Tryz.prog 22 #[.slice s.a s.n s.c, .agg #[.int .i64 c.k, .int .i64 c.r, .int .i64 c.a, .int .i64 c.b, .int .i64 c.n]] w (fun e w' => ∃ (s' : Sl) (ts : List Tr), e = .returned (.tuple #[.slice s'.a s'.n s'.c, .int .i64 a]) ∧ TaW w.heap.size w' s' ts ∧ ts.map (·.1) = x ∧ Below w.heap.size w w') :=
  (implDo_any l s c w ht hf he hz).mono fun e w' h => by
    obtain ⟨s', ts, h1, h2, h3, h4⟩ := h
    rw [hv] at h1 h3
    exact ⟨s', ts, h1, h2, h3, h4⟩
end Go.Proofs.YtbopficnajdaoaaGreatDoor

namespace Go.Proofs.YtbopficnajdaoaaGreatDoor
open Go.RowKit
set_option linter.unusedVariables false

/-- A table stays one ahead of the answer, too. -/
theorem act_tab {l : List T8} {c : C5} (h : OkC l c) : tabOk (actV l c).1 = true := by
  obtain ⟨jr, hjr, hcr, hth, hkr⟩ := h.run
  refine tab_map h.tab (act_len l c) fun i hi => ?_
  have hs := stp_ok h hi (ans_bd h) (do_step h i hi)
  by_cases e : i = jr
  · subst e
    rw [do_run hi hcr] at hs
    obtain ⟨h1, h2, -, -, h5, h6, h7, -⟩ := hs
    refine ⟨?_, h2, h5, h6, h7⟩
    have hk : ((actV l c).1[i]'(by rw [act_len]; exact hi)).kind = 3 := h2.trans hkr
    have hn : ((actV l c).1[i]'(by rw [act_len]; exact hi)).num = l[i].num := by
      have := do_step h i hi
      rw [do_run hi hcr] at this
      by_cases h0 : chkV l c = 0
      case neg => rw [get_of (do_unref h h0)]
      by_cases h3 : c.k = 3
      · have e := act_copy h h3
        rw [hth, hcr, setTh_at] at e
        rw [get_of (congrArg Prod.fst e)]; simp
      cases hl : liveB l (rOf l c) with
      | false => rw [get_of (congrArg Prod.fst (act_dead h0 h3 hl))]
      | true =>
        have e := act_far h0 h3 hl
        obtain ⟨jo, hjo, hro, hto, hko⟩ := obj_of h0 h3
        have hne : jo ≠ i := fun e => by subst e; exact kinds_ne hko hkr
        have one : ∀ y, (farV l c (rOf l c)).1 = l.set jo y → ((actV l c).1[i]'(by rw [act_len]; exact hi)).num = l[i].num := fun y hy => by
          rw [get_of (congrArg Prod.fst e)]
          simp only [hy]
          rw [List.getElem_set_ne hne]
        have non : (farV l c (rOf l c)).1 = l → ((actV l c).1[i]'(by rw [act_len]; exact hi)).num = l[i].num := fun hy => by
          rw [get_of (congrArg Prod.fst e)]
          simp only [hy]
        rcases eight (ok_k h.2).1 h3 with hk | hk | hk | hk | hk | hk | hk | hk
        · exact non (by rw [far1 hk])
        · exact one _ (by rw [far2 hk, hro, setTh_at])
        · rw [far4 hk, hth, hcr, setTh_at] at e
          rw [get_of (congrArg Prod.fst e)]; simp
        · exact one _ (by rw [far5 hk, hro, setTh_at])
        · by_cases hq : 3 ≤ (thAt l (rOf l c).t).queue.length
          · exact non (by rw [far6 hk, if_pos hq])
          · exact one _ (by rw [far6 hk, if_neg hq, hro, setTh_at])
        · cases hq : (thAt l (rOf l c).t).queue with
          | nil => exact non (by rw [far7n hk hq])
          | cons q qs => exact one _ (by rw [far7 hk hq, hro, setTh_at])
        · by_cases hq : 5 ≤ (thAt l (rOf l c).t).vers
          · exact non (by rw [far8 hk, if_pos hq])
          · exact one _ (by rw [far8 hk, if_neg hq, hro, setTh_at])
        · obtain ⟨jt, hjt, ht', hkt⟩ := gate_to h.tab hjo (by have := kind_of hko; simpa [kindsOf, hk] using this)
          have n2 : jt ≠ i := fun e => by subst e; omega
          rw [far9 hk, hto, ht', hro, setTh_at, setTh_at] at e
          rw [get_of (congrArg Prod.fst e)]
          simp only
          rw [List.getElem_set_ne hne, List.getElem_set_ne n2]
    have := okT_run (n := l[i].num) h1 hk (okT_num (tab_okT h.tab hi))
    have e2 : { (actV l c).1[i]'(by rw [act_len]; exact hi) with num := l[i].num } = (actV l c).1[i]'(by rw [act_len]; exact hi) := by rw [← hn]
    rw [← e2]
    exact this
  · rw [do_obj h hjr hcr hi e] at hs
    exact ⟨hs.1, hs.2.1, hs.2.2.2.2.1, hs.2.2.2.2.2.1, hs.2.2.2.2.2.2.1⟩
end Go.Proofs.YtbopficnajdaoaaGreatDoor
