/-
  Texts of ours as one: SfA, SfB, SfD, SfC, SfE, SfG, Sdo, Sca.
-/
import Derived.Test.YtbopficnajdaoaaGreatDoorDoM
import Derived.Deep.DeepCutAuto
import Derived.BigRegion
import Derived.Deep.AppendLies
import Derived.Deep.CutBlock
import Derived.IntWalk
namespace Go.Proofs.YtbopficnajdaoaaGreatDoor
open Go.RowKit
set_option maxRecDepth 100000
set_option linter.unusedVariables false

theorem dp_same {n0 : Nat} {w V : World} {s : Sl} {ts : List Tr} {a : Int} (hT : TaW n0 V s ts) (hb : Below w.heap.size w V) (hn : n0 ≤ w.heap.size) : DeedPost n0 w s ts a (.returned (.int .i64 a)) V :=
  ⟨rfl, hT, hb.mono hn, hb.size, fun b T cs _ _ kx => kx.stay hb⟩
/-- A thing put back whole. -/
theorem put_back {n0 : Nat} {w V : World} {s : Sl} {ts : List Tr} {g jo : Nat} {u t' : Tr} {a : Int} (hT : TaW n0 V s ts) (hs : s.a = some ⟨g, 0, none⟩) (hu : ts[jo]? = some u) (h' : ThW n0 V t') (ha : ∀ (j : Nat) b, ts[j]? = some b → j ≠ jo → ApartT t' b) (hb : Below n0 w V) (hz : w.heap.size ≤ V.heap.size) (hk : ∀ b T cs, b < w.heap.size → Off T cs → Box w b T cs → Box V b T cs) :
    DeedPost n0 w s (ts.set jo t') a (.returned (.int .i64 a)) ((((((((V.setCell ⟨g, jo * 8, none⟩ (.int .i64 t'.1.kind)).setCell ⟨g, jo * 8 + 1, none⟩ (.int .i64 t'.1.sec)).setCell ⟨g, jo * 8 + 2, none⟩ (.int .i64 t'.1.vou)).setCell ⟨g, jo * 8 + 3, none⟩ (.int .i64 t'.1.vers)).setCell ⟨g, jo * 8 + 4, none⟩ (.int .i64 t'.1.num)).setCell ⟨g, jo * 8 + 5, none⟩ (.slice t'.2.1.a t'.2.1.n t'.2.1.c)).setCell ⟨g, jo * 8 + 6, none⟩ (.slice t'.2.2.a t'.2.2.n t'.2.2.c)).setCell ⟨g, jo * 8 + 7, none⟩ (.int .i64 t'.1.to)) := by
  obtain ⟨-, hg0, hgl, cur, bx⟩ := hT.1.blk hs
  rw [lay8]
  exact ⟨rfl, hT.lay hs hu t' h' ha, hb.trans (lay_belo hg0 _ _ _), by rw [lay_size]; exact hz, fun b T cs hlt hN kx => lay_other (Box.ne (hk b T cs hlt hN kx) bx hN.t) _ _ (hk b T cs hlt hN kx)⟩
set_option maxHeartbeats 4000000 in
theorem l12Far_1 (n0 : Nat) (ts : List Tr) (g N sc : Nat) (jr ja jb : Nat) (cn : Int) (jo : Nat) (rv : Int) (rr rw_ rk : Bool) (tc uc : T8) (ta tcp : Nat) (tq us uq : Sl) (w : World) (hT : TaW n0 w ⟨some ⟨g, 0, none⟩, N, sc⟩ ts) (hn : n0 ≤ w.heap.size) (h8 : N ≤ 8) (hjr : jr < N) (hjo : jo < N) (ht : ts[jr]? = some (tc, ⟨some ⟨ta, 0, none⟩, 4, tcp⟩, tq)) (hu : ts[jo]? = some (uc, us, uq))  :
    Calls Tryz.prog 63 #[.slice (some ⟨g, 0, none⟩) N sc, .agg #[.int .i64 1, .int .i64 ((jr : Int) + 1), .int .i64 (ja : Int), .int .i64 (jb : Int), .int .i64 cn], .agg #[.int .i64 ((jo : Int) + 1), .int .i64 rv, .bool rr, .bool rw_, .bool rk]] w (DeedPost n0 w ⟨some ⟨g, 0, none⟩, N, sc⟩ ts uc.num) := by
  obtain ⟨Y0, hY0⟩ : ∃ Y0, (w.alloc (.cells (C5.cs ⟨1, (jr : Int) + 1, (ja : Int), (jb : Int), cn⟩) 25)).alloc (.cells (R5.cs ⟨(jo : Int) + 1, rv, rr, rw_, rk⟩) 34) = Y0 := ⟨_, rfl⟩
  have K0 := ((Kn.refl (w := w)).new 25 (C5.cs ⟨1, (jr : Int) + 1, (ja : Int), (jb : Int), cn⟩)).new 34 (R5.cs ⟨(jo : Int) + 1, rv, rr, rw_, rk⟩)
  rw [show (w.alloc (.cells (C5.cs ⟨1, (jr : Int) + 1, (ja : Int), (jb : Int), cn⟩) 25)).heap.size = w.heap.size + 1 by simp, hY0] at K0
  have t0 := hT.stay K0.1
  have hu0 := t0.at rfl hu
  have cu0 := hu0 0 _ rfl
  rw [Nat.add_zero] at cu0
  have cu1 := hu0 1 _ rfl
  have cu2 := hu0 2 _ rfl
  have cu3 := hu0 3 _ rfl
  have cu4 := hu0 4 _ rfl
  have cu5 := hu0 5 _ rfl
  have cu6 := hu0 6 _ rfl
  have cu7 := hu0 7 _ rfl
  have r0 := K0.c (b := w.heap.size + 1) (T := 34) (vs := R5.cs ⟨(jo : Int) + 1, rv, rr, rw_, rk⟩) (by simp) 0 _ rfl
  obtain ⟨Y1, hY1⟩ : ∃ Y1, Y0.alloc (.cells (T8.cs uc us uq) 40) = Y1 := ⟨_, rfl⟩
  have K1 := K0.new 40 (T8.cs uc us uq)
  rw [hY1] at K1
  have t1 := hT.stay K1.1
  have ht1 := t1.at rfl ht
  have ct0 := ht1 0 _ rfl
  rw [Nat.add_zero] at ct0
  have ct1 := ht1 1 _ rfl
  have ct2 := ht1 2 _ rfl
  have ct3 := ht1 3 _ rfl
  have ct4 := ht1 4 _ rfl
  have ct5 := ht1 5 _ rfl
  have ct6 := ht1 6 _ rfl
  have ct7 := ht1 7 _ rfl
  have q1 := K1.c (b := w.heap.size) (T := 25) (vs := C5.cs ⟨1, (jr : Int) + 1, (ja : Int), (jb : Int), cn⟩) (by simp) 1 _ rfl
  obtain ⟨Y2, hY2⟩ : ∃ Y2, Y1.alloc (.cells (T8.cs tc ⟨some ⟨ta, 0, none⟩, 4, tcp⟩ tq) 40) = Y2 := ⟨_, rfl⟩
  have K2 := K1.new 40 (T8.cs tc ⟨some ⟨ta, 0, none⟩, 4, tcp⟩ tq)
  rw [hY2] at K2
  have t2 := hT.stay K2.1
  have z0 : Y0.heap.size = w.heap.size + 2 := by rw [← hY0]; simp
  have z1 : Y1.heap.size = w.heap.size + 3 := by rw [← hY1]; simp [z0]
  have k0 := K2.c (b := w.heap.size) (T := 25) (vs := C5.cs ⟨1, (jr : Int) + 1, (ja : Int), (jb : Int), cn⟩) (by simp) 0 _ rfl
  have bO := K2.box (b := Y0.heap.size) (T := 40) (vs := T8.cs uc us uq) (by simp)
  have bRun := K2.box (b := Y1.heap.size) (T := 40) (vs := T8.cs tc ⟨some ⟨ta, 0, none⟩, 4, tcp⟩ tq) (by simp)
  have bCl := K2.box (b := w.heap.size) (T := 25) (vs := C5.cs ⟨1, (jr : Int) + 1, (ja : Int), (jb : Int), cn⟩) (by simp)
  have bRt := K2.box (b := w.heap.size + 1) (T := 34) (vs := R5.cs ⟨(jo : Int) + 1, rv, rr, rw_, rk⟩) (by simp)
  have hjrI : (jr : Int) < (N : Int) := by omega
  have hjoI : (jo : Int) < (N : Int) := by omega
  have h0w : Below w.heap.size w Y2 := K2.1
  have o4 := bO.cell 3 _ rfl
  have o3 := bO.cell 4 _ rfl
  have T2 := Lib.hid t2
  have HB := Lib.hid h0w
  clear bO bRun bCl bRt t2 K2 h0w
  clear hT t0 t1 hu0 ht1 K0 K1 z0 z1
  go_enter Tryz.func63, Tryz.ntmps63
  go_wp2
  go_ret
  exact dp_same T2.out HB.out hn
set_option maxHeartbeats 4000000 in
theorem l12Far_2 (n0 : Nat) (ts : List Tr) (g N sc : Nat) (jr ja jb : Nat) (cn : Int) (jo : Nat) (rv : Int) (rr rw_ rk : Bool) (tc uc : T8) (ta tcp : Nat) (tq us uq : Sl) (w : World) (hT : TaW n0 w ⟨some ⟨g, 0, none⟩, N, sc⟩ ts) (hn : n0 ≤ w.heap.size) (h8 : N ≤ 8) (hjr : jr < N) (hjo : jo < N) (ht : ts[jr]? = some (tc, ⟨some ⟨ta, 0, none⟩, 4, tcp⟩, tq)) (hu : ts[jo]? = some (uc, us, uq))  :
    Calls Tryz.prog 63 #[.slice (some ⟨g, 0, none⟩) N sc, .agg #[.int .i64 2, .int .i64 ((jr : Int) + 1), .int .i64 (ja : Int), .int .i64 (jb : Int), .int .i64 cn], .agg #[.int .i64 ((jo : Int) + 1), .int .i64 rv, .bool rr, .bool rw_, .bool rk]] w (DeedPost n0 w ⟨some ⟨g, 0, none⟩, N, sc⟩ (ts.set jo ({ uc with num := cn }, us, uq)) 0) := by
  obtain ⟨Y0, hY0⟩ : ∃ Y0, (w.alloc (.cells (C5.cs ⟨2, (jr : Int) + 1, (ja : Int), (jb : Int), cn⟩) 25)).alloc (.cells (R5.cs ⟨(jo : Int) + 1, rv, rr, rw_, rk⟩) 34) = Y0 := ⟨_, rfl⟩
  have K0 := ((Kn.refl (w := w)).new 25 (C5.cs ⟨2, (jr : Int) + 1, (ja : Int), (jb : Int), cn⟩)).new 34 (R5.cs ⟨(jo : Int) + 1, rv, rr, rw_, rk⟩)
  rw [show (w.alloc (.cells (C5.cs ⟨2, (jr : Int) + 1, (ja : Int), (jb : Int), cn⟩) 25)).heap.size = w.heap.size + 1 by simp, hY0] at K0
  have t0 := hT.stay K0.1
  have hu0 := t0.at rfl hu
  have cu0 := hu0 0 _ rfl
  rw [Nat.add_zero] at cu0
  have cu1 := hu0 1 _ rfl
  have cu2 := hu0 2 _ rfl
  have cu3 := hu0 3 _ rfl
  have cu4 := hu0 4 _ rfl
  have cu5 := hu0 5 _ rfl
  have cu6 := hu0 6 _ rfl
  have cu7 := hu0 7 _ rfl
  have r0 := K0.c (b := w.heap.size + 1) (T := 34) (vs := R5.cs ⟨(jo : Int) + 1, rv, rr, rw_, rk⟩) (by simp) 0 _ rfl
  obtain ⟨Y1, hY1⟩ : ∃ Y1, Y0.alloc (.cells (T8.cs uc us uq) 40) = Y1 := ⟨_, rfl⟩
  have K1 := K0.new 40 (T8.cs uc us uq)
  rw [hY1] at K1
  have t1 := hT.stay K1.1
  have ht1 := t1.at rfl ht
  have ct0 := ht1 0 _ rfl
  rw [Nat.add_zero] at ct0
  have ct1 := ht1 1 _ rfl
  have ct2 := ht1 2 _ rfl
  have ct3 := ht1 3 _ rfl
  have ct4 := ht1 4 _ rfl
  have ct5 := ht1 5 _ rfl
  have ct6 := ht1 6 _ rfl
  have ct7 := ht1 7 _ rfl
  have q1 := K1.c (b := w.heap.size) (T := 25) (vs := C5.cs ⟨2, (jr : Int) + 1, (ja : Int), (jb : Int), cn⟩) (by simp) 1 _ rfl
  obtain ⟨Y2, hY2⟩ : ∃ Y2, Y1.alloc (.cells (T8.cs tc ⟨some ⟨ta, 0, none⟩, 4, tcp⟩ tq) 40) = Y2 := ⟨_, rfl⟩
  have K2 := K1.new 40 (T8.cs tc ⟨some ⟨ta, 0, none⟩, 4, tcp⟩ tq)
  rw [hY2] at K2
  have t2 := hT.stay K2.1
  have z0 : Y0.heap.size = w.heap.size + 2 := by rw [← hY0]; simp
  have z1 : Y1.heap.size = w.heap.size + 3 := by rw [← hY1]; simp [z0]
  have k0 := K2.c (b := w.heap.size) (T := 25) (vs := C5.cs ⟨2, (jr : Int) + 1, (ja : Int), (jb : Int), cn⟩) (by simp) 0 _ rfl
  have bO := K2.box (b := Y0.heap.size) (T := 40) (vs := T8.cs uc us uq) (by simp)
  have bRun := K2.box (b := Y1.heap.size) (T := 40) (vs := T8.cs tc ⟨some ⟨ta, 0, none⟩, 4, tcp⟩ tq) (by simp)
  have bCl := K2.box (b := w.heap.size) (T := 25) (vs := C5.cs ⟨2, (jr : Int) + 1, (ja : Int), (jb : Int), cn⟩) (by simp)
  have bRt := K2.box (b := w.heap.size + 1) (T := 34) (vs := R5.cs ⟨(jo : Int) + 1, rv, rr, rw_, rk⟩) (by simp)
  have hjrI : (jr : Int) < (N : Int) := by omega
  have hjoI : (jo : Int) < (N : Int) := by omega
  have h0w : Below w.heap.size w Y2 := K2.1
  have k4 := bCl.cell 4 _ rfl
  have o4 := bO.cell 4 _ rfl
  have g4 := bO.thaw 4
  obtain ⟨V, hV⟩ : ∃ V, Y2.setCell ⟨Y0.heap.size, 4, none⟩ (.int .i64 cn) = V := ⟨_, rfl⟩
  have bV : Box V Y0.heap.size 40 (T8.cs { uc with num := cn } us uq) := by
    have := bO.put 4 (.int .i64 cn)
    rw [hV] at this
    exact this
  have hbV : Below w.heap.size w V := hV ▸ h0w.setCell (p := ⟨Y0.heap.size, 4, none⟩) (by dsimp only; omega) _
  have tV := hT.stay hbV
  have m0 := (bRt.other (p := ⟨Y0.heap.size, 4, none⟩) (show w.heap.size + 1 ≠ Y0.heap.size by omega) (.int .i64 cn)).cell 0 _ rfl
  rw [hV] at m0
  have v0 := bV.cell 0 _ rfl
  have v1 := bV.cell 1 _ rfl
  have v2 := bV.cell 2 _ rfl
  have v3 := bV.cell 3 _ rfl
  have v4 := bV.cell 4 _ rfl
  have v5 := bV.cell 5 _ rfl
  have v6 := bV.cell 6 _ rfl
  have v7 := bV.cell 7 _ rfl
  have hw := (tV).at (g := g) rfl hu
  have w0 := hw 0 _ rfl
  rw [Nat.add_zero] at w0
  have w1 := hw 1 _ rfl
  have w2 := hw 2 _ rfl
  have w3 := hw 3 _ rfl
  have w4 := hw 4 _ rfl
  have w5 := hw 5 _ rfl
  have w6 := hw 6 _ rfl
  have w7 := hw 7 _ rfl
  obtain ⟨-, hgg, -, curg, bxg⟩ := (tV).1.blk (b := g) (o := 0) rfl
  have x0 := bxg.thaw (jo * 8)
  have x1 := bxg.thaw (jo * 8 + 1)
  have x2 := bxg.thaw (jo * 8 + 2)
  have x3 := bxg.thaw (jo * 8 + 3)
  have x4 := bxg.thaw (jo * 8 + 4)
  have x5 := bxg.thaw (jo * 8 + 5)
  have x6 := bxg.thaw (jo * 8 + 6)
  have x7 := bxg.thaw (jo * 8 + 7)
  have FIN := Lib.hid (put_back (n0 := n0) (w := w) (a := 0) (t' := ({ uc with num := cn }, us, uq)) tV rfl hu ⟨(tV.get hu).1, (tV.get hu).2⟩ (fun j b hj hne => ⟨(tV.2.2 jo j (uc, us, uq) b hu hj (fun e => hne e.symm)).1, (tV.2.2 jo j (uc, us, uq) b hu hj (fun e => hne e.symm)).2⟩) (hbV.mono hn) hbV.size (fun b T cs _ _ kx => kx.stay hbV))
  clear bO bRun bCl bRt t2 K2 h0w bV hbV tV hw bxg hgg
  clear hT t0 t1 hu0 ht1 K0 K1 z0 z1
  go_enter Tryz.func63, Tryz.ntmps63
  go_wp2
  go_ret
  exact FIN.out
set_option maxHeartbeats 4000000 in
theorem l12Far_9 (n0 : Nat) (ts : List Tr) (g N sc : Nat) (jr ja jb : Nat) (cn : Int) (jo : Nat) (rv : Int) (rr rw_ rk : Bool) (tc uc : T8) (ta tcp : Nat) (tq us uq : Sl) (w : World) (hT : TaW n0 w ⟨some ⟨g, 0, none⟩, N, sc⟩ ts) (hn : n0 ≤ w.heap.size) (h8 : N ≤ 8) (hjr : jr < N) (hjo : jo < N) (ht : ts[jr]? = some (tc, ⟨some ⟨ta, 0, none⟩, 4, tcp⟩, tq)) (hu : ts[jo]? = some (uc, us, uq)) (jt : Nat) (pc : T8) (ps pq : Sl) (n2 : Int) (hp : ts[jt]? = some (pc, ps, pq)) (hne : jt ≠ jo) (hto : uc.to = (jt : Int) + 1) (hnum : 0 ≤ uc.num ∧ uc.num ≤ 99) (hjt : jt < N) (hrem : Int.tmod cn 2 = n2) :
    Calls Tryz.prog 63 #[.slice (some ⟨g, 0, none⟩) N sc, .agg #[.int .i64 9, .int .i64 ((jr : Int) + 1), .int .i64 (ja : Int), .int .i64 (jb : Int), .int .i64 cn], .agg #[.int .i64 ((jo : Int) + 1), .int .i64 rv, .bool rr, .bool rw_, .bool rk]] w (DeedPost n0 w ⟨some ⟨g, 0, none⟩, N, sc⟩ ((ts.set jt ({ pc with num := n2 }, ps, pq)).set jo ({ uc with num := min (uc.num + 1) 99 }, us, uq)) 0) := by
  obtain ⟨Y0, hY0⟩ : ∃ Y0, (w.alloc (.cells (C5.cs ⟨9, (jr : Int) + 1, (ja : Int), (jb : Int), cn⟩) 25)).alloc (.cells (R5.cs ⟨(jo : Int) + 1, rv, rr, rw_, rk⟩) 34) = Y0 := ⟨_, rfl⟩
  have K0 := ((Kn.refl (w := w)).new 25 (C5.cs ⟨9, (jr : Int) + 1, (ja : Int), (jb : Int), cn⟩)).new 34 (R5.cs ⟨(jo : Int) + 1, rv, rr, rw_, rk⟩)
  rw [show (w.alloc (.cells (C5.cs ⟨9, (jr : Int) + 1, (ja : Int), (jb : Int), cn⟩) 25)).heap.size = w.heap.size + 1 by simp, hY0] at K0
  have t0 := hT.stay K0.1
  have hu0 := t0.at rfl hu
  have cu0 := hu0 0 _ rfl
  rw [Nat.add_zero] at cu0
  have cu1 := hu0 1 _ rfl
  have cu2 := hu0 2 _ rfl
  have cu3 := hu0 3 _ rfl
  have cu4 := hu0 4 _ rfl
  have cu5 := hu0 5 _ rfl
  have cu6 := hu0 6 _ rfl
  have cu7 := hu0 7 _ rfl
  have r0 := K0.c (b := w.heap.size + 1) (T := 34) (vs := R5.cs ⟨(jo : Int) + 1, rv, rr, rw_, rk⟩) (by simp) 0 _ rfl
  obtain ⟨Y1, hY1⟩ : ∃ Y1, Y0.alloc (.cells (T8.cs uc us uq) 40) = Y1 := ⟨_, rfl⟩
  have K1 := K0.new 40 (T8.cs uc us uq)
  rw [hY1] at K1
  have t1 := hT.stay K1.1
  have ht1 := t1.at rfl ht
  have ct0 := ht1 0 _ rfl
  rw [Nat.add_zero] at ct0
  have ct1 := ht1 1 _ rfl
  have ct2 := ht1 2 _ rfl
  have ct3 := ht1 3 _ rfl
  have ct4 := ht1 4 _ rfl
  have ct5 := ht1 5 _ rfl
  have ct6 := ht1 6 _ rfl
  have ct7 := ht1 7 _ rfl
  have q1 := K1.c (b := w.heap.size) (T := 25) (vs := C5.cs ⟨9, (jr : Int) + 1, (ja : Int), (jb : Int), cn⟩) (by simp) 1 _ rfl
  obtain ⟨Y2, hY2⟩ : ∃ Y2, Y1.alloc (.cells (T8.cs tc ⟨some ⟨ta, 0, none⟩, 4, tcp⟩ tq) 40) = Y2 := ⟨_, rfl⟩
  have K2 := K1.new 40 (T8.cs tc ⟨some ⟨ta, 0, none⟩, 4, tcp⟩ tq)
  rw [hY2] at K2
  have t2 := hT.stay K2.1
  have z0 : Y0.heap.size = w.heap.size + 2 := by rw [← hY0]; simp
  have z1 : Y1.heap.size = w.heap.size + 3 := by rw [← hY1]; simp [z0]
  have k0 := K2.c (b := w.heap.size) (T := 25) (vs := C5.cs ⟨9, (jr : Int) + 1, (ja : Int), (jb : Int), cn⟩) (by simp) 0 _ rfl
  have bO := K2.box (b := Y0.heap.size) (T := 40) (vs := T8.cs uc us uq) (by simp)
  have bRun := K2.box (b := Y1.heap.size) (T := 40) (vs := T8.cs tc ⟨some ⟨ta, 0, none⟩, 4, tcp⟩ tq) (by simp)
  have bCl := K2.box (b := w.heap.size) (T := 25) (vs := C5.cs ⟨9, (jr : Int) + 1, (ja : Int), (jb : Int), cn⟩) (by simp)
  have bRt := K2.box (b := w.heap.size + 1) (T := 34) (vs := R5.cs ⟨(jo : Int) + 1, rv, rr, rw_, rk⟩) (by simp)
  have hjrI : (jr : Int) < (N : Int) := by omega
  have hjoI : (jo : Int) < (N : Int) := by omega
  have h0w : Below w.heap.size w Y2 := K2.1
  have o4 := bO.cell 4 _ rfl
  have g4 := bO.thaw 4
  have hjtI : (jt : Int) < (N : Int) := by omega
  by_cases hm : (99 : Int) < uc.num + 1
  ·
    obtain ⟨V, hV⟩ : ∃ V, Y2.setCell ⟨Y0.heap.size, 4, none⟩ (.int .i64 (99)) = V := ⟨_, rfl⟩
    have EM := Lib.hid (show min (uc.num + 1) 99 = 99 by omega)
    have bV : Box V Y0.heap.size 40 (T8.cs { uc with num := 99 } us uq) := by
      have := bO.put 4 (.int .i64 (99))
      rw [hV] at this
      exact this
    have hbV : Below w.heap.size w V := hV ▸ h0w.setCell (p := ⟨Y0.heap.size, 4, none⟩) (by dsimp only; omega) _
    have tV := hT.stay hbV
    have cV : Box V w.heap.size 25 (C5.cs ⟨9, (jr : Int) + 1, (ja : Int), (jb : Int), cn⟩) := hV ▸ bCl.other (p := ⟨Y0.heap.size, 4, none⟩) (show w.heap.size ≠ Y0.heap.size by omega) _
    have rV : Box V (w.heap.size + 1) 34 (R5.cs ⟨(jo : Int) + 1, rv, rr, rw_, rk⟩) := hV ▸ bRt.other (p := ⟨Y0.heap.size, 4, none⟩) (show w.heap.size + 1 ≠ Y0.heap.size by omega) _
    have v7 : V.cell? ⟨Y0.heap.size, 7, none⟩ = some (.int .i64 uc.to) := bV.cell 7 _ rfl
    rw [hto] at v7
    have i4 := cV.cell 4 _ rfl
    have p4 := tV.at (g := g) rfl hp 4 _ rfl
    obtain ⟨-, hg0, hgl, curV, bxV⟩ := tV.1.blk (b := g) (o := 0) rfl
    have f4 := bxV.thaw (jt * 8 + 4)
    obtain ⟨V2, hV2⟩ : ∃ V2, V.setCell ⟨g, jt * 8 + 4, none⟩ (.int .i64 n2) = V2 := ⟨_, rfl⟩
    have t3 : TaW n0 V2 ⟨some ⟨g, 0, none⟩, N, sc⟩ (ts.set jt ({ pc with num := n2 }, ps, pq)) := hV2 ▸ tV.num (g := g) rfl hp n2
    have hu3 : (ts.set jt ({ pc with num := n2 }, ps, pq))[jo]? = some (uc, us, uq) := by rw [List.getElem?_set_ne hne]; exact hu
    have gw : g < w.heap.size := (hT.1.blk (b := g) (o := 0) rfl).2.2.1
    have b3 : Box V2 Y0.heap.size 40 (T8.cs { uc with num := 99 } us uq) := hV2 ▸ bV.other (p := ⟨g, jt * 8 + 4, none⟩) (show Y0.heap.size ≠ g by omega) _
    have r3 : Box V2 (w.heap.size + 1) 34 (R5.cs ⟨(jo : Int) + 1, rv, rr, rw_, rk⟩) := hV2 ▸ rV.other (p := ⟨g, jt * 8 + 4, none⟩) (show w.heap.size + 1 ≠ g by omega) _
    have m0 := r3.cell 0 _ rfl
    have hb3 : Below n0 w V2 := hV2 ▸ (hbV.mono hn).setCell (p := ⟨g, jt * 8 + 4, none⟩) hg0 _
    have hz3 : w.heap.size ≤ V2.heap.size := by have := hbV.size; rw [← hV2]; simpa [World.setCell] using this
    have hk3 : ∀ b T cs, b < w.heap.size → Off T cs → Box w b T cs → Box V2 b T cs := fun b T cs _ hN kx => hV2 ▸ (kx.stay hbV).other (p := ⟨g, jt * 8 + 4, none⟩) (Box.ne (kx.stay hbV) bxV hN.t) _
    have v0 := b3.cell 0 _ rfl
    have v1 := b3.cell 1 _ rfl
    have v2 := b3.cell 2 _ rfl
    have v3 := b3.cell 3 _ rfl
    have v4 := b3.cell 4 _ rfl
    have v5 := b3.cell 5 _ rfl
    have v6 := b3.cell 6 _ rfl
    have v77 := b3.cell 7 _ rfl
    have hw := (t3).at (g := g) rfl hu3
    have w0 := hw 0 _ rfl
    rw [Nat.add_zero] at w0
    have w1 := hw 1 _ rfl
    have w2 := hw 2 _ rfl
    have w3 := hw 3 _ rfl
    have w4 := hw 4 _ rfl
    have w5 := hw 5 _ rfl
    have w6 := hw 6 _ rfl
    have w7 := hw 7 _ rfl
    obtain ⟨-, hgg, -, curg, bxg⟩ := (t3).1.blk (b := g) (o := 0) rfl
    have x0 := bxg.thaw (jo * 8)
    have x1 := bxg.thaw (jo * 8 + 1)
    have x2 := bxg.thaw (jo * 8 + 2)
    have x3 := bxg.thaw (jo * 8 + 3)
    have x4 := bxg.thaw (jo * 8 + 4)
    have x5 := bxg.thaw (jo * 8 + 5)
    have x6 := bxg.thaw (jo * 8 + 6)
    have x7 := bxg.thaw (jo * 8 + 7)
    have FIN := Lib.hid (put_back (n0 := n0) (w := w) (a := 0) (t' := ({ uc with num := 99 }, us, uq)) t3 rfl hu3 ⟨(t3.get hu3).1, (t3.get hu3).2⟩ (fun j b hj hne => ⟨(t3.2.2 jo j (uc, us, uq) b hu3 hj (fun e => hne e.symm)).1, (t3.2.2 jo j (uc, us, uq) b hu3 hj (fun e => hne e.symm)).2⟩) hb3 hz3 hk3)
    clear bO bRun bCl bRt t2 K2 h0w bV hbV tV hw bxg hgg cV rV bxV t3 hu3 b3 r3 hb3 hz3 hk3 hg0 hgl hu ht hp
    clear hT t0 t1 hu0 ht1 K0 K1 z0 z1 hto
    go_enter Tryz.func63, Tryz.ntmps63
    go_wp2
    go_ret
    rw [EM.out]
    exact FIN.out
  ·
    obtain ⟨V, hV⟩ : ∃ V, Y2.setCell ⟨Y0.heap.size, 4, none⟩ (.int .i64 (uc.num + 1)) = V := ⟨_, rfl⟩
    have EM := Lib.hid (show min (uc.num + 1) 99 = uc.num + 1 by omega)
    have bV : Box V Y0.heap.size 40 (T8.cs { uc with num := uc.num + 1 } us uq) := by
      have := bO.put 4 (.int .i64 (uc.num + 1))
      rw [hV] at this
      exact this
    have hbV : Below w.heap.size w V := hV ▸ h0w.setCell (p := ⟨Y0.heap.size, 4, none⟩) (by dsimp only; omega) _
    have tV := hT.stay hbV
    have cV : Box V w.heap.size 25 (C5.cs ⟨9, (jr : Int) + 1, (ja : Int), (jb : Int), cn⟩) := hV ▸ bCl.other (p := ⟨Y0.heap.size, 4, none⟩) (show w.heap.size ≠ Y0.heap.size by omega) _
    have rV : Box V (w.heap.size + 1) 34 (R5.cs ⟨(jo : Int) + 1, rv, rr, rw_, rk⟩) := hV ▸ bRt.other (p := ⟨Y0.heap.size, 4, none⟩) (show w.heap.size + 1 ≠ Y0.heap.size by omega) _
    have v7 : V.cell? ⟨Y0.heap.size, 7, none⟩ = some (.int .i64 uc.to) := bV.cell 7 _ rfl
    rw [hto] at v7
    have i4 := cV.cell 4 _ rfl
    have p4 := tV.at (g := g) rfl hp 4 _ rfl
    obtain ⟨-, hg0, hgl, curV, bxV⟩ := tV.1.blk (b := g) (o := 0) rfl
    have f4 := bxV.thaw (jt * 8 + 4)
    obtain ⟨V2, hV2⟩ : ∃ V2, V.setCell ⟨g, jt * 8 + 4, none⟩ (.int .i64 n2) = V2 := ⟨_, rfl⟩
    have t3 : TaW n0 V2 ⟨some ⟨g, 0, none⟩, N, sc⟩ (ts.set jt ({ pc with num := n2 }, ps, pq)) := hV2 ▸ tV.num (g := g) rfl hp n2
    have hu3 : (ts.set jt ({ pc with num := n2 }, ps, pq))[jo]? = some (uc, us, uq) := by rw [List.getElem?_set_ne hne]; exact hu
    have gw : g < w.heap.size := (hT.1.blk (b := g) (o := 0) rfl).2.2.1
    have b3 : Box V2 Y0.heap.size 40 (T8.cs { uc with num := uc.num + 1 } us uq) := hV2 ▸ bV.other (p := ⟨g, jt * 8 + 4, none⟩) (show Y0.heap.size ≠ g by omega) _
    have r3 : Box V2 (w.heap.size + 1) 34 (R5.cs ⟨(jo : Int) + 1, rv, rr, rw_, rk⟩) := hV2 ▸ rV.other (p := ⟨g, jt * 8 + 4, none⟩) (show w.heap.size + 1 ≠ g by omega) _
    have m0 := r3.cell 0 _ rfl
    have hb3 : Below n0 w V2 := hV2 ▸ (hbV.mono hn).setCell (p := ⟨g, jt * 8 + 4, none⟩) hg0 _
    have hz3 : w.heap.size ≤ V2.heap.size := by have := hbV.size; rw [← hV2]; simpa [World.setCell] using this
    have hk3 : ∀ b T cs, b < w.heap.size → Off T cs → Box w b T cs → Box V2 b T cs := fun b T cs _ hN kx => hV2 ▸ (kx.stay hbV).other (p := ⟨g, jt * 8 + 4, none⟩) (Box.ne (kx.stay hbV) bxV hN.t) _
    have v0 := b3.cell 0 _ rfl
    have v1 := b3.cell 1 _ rfl
    have v2 := b3.cell 2 _ rfl
    have v3 := b3.cell 3 _ rfl
    have v4 := b3.cell 4 _ rfl
    have v5 := b3.cell 5 _ rfl
    have v6 := b3.cell 6 _ rfl
    have v77 := b3.cell 7 _ rfl
    have hw := (t3).at (g := g) rfl hu3
    have w0 := hw 0 _ rfl
    rw [Nat.add_zero] at w0
    have w1 := hw 1 _ rfl
    have w2 := hw 2 _ rfl
    have w3 := hw 3 _ rfl
    have w4 := hw 4 _ rfl
    have w5 := hw 5 _ rfl
    have w6 := hw 6 _ rfl
    have w7 := hw 7 _ rfl
    obtain ⟨-, hgg, -, curg, bxg⟩ := (t3).1.blk (b := g) (o := 0) rfl
    have x0 := bxg.thaw (jo * 8)
    have x1 := bxg.thaw (jo * 8 + 1)
    have x2 := bxg.thaw (jo * 8 + 2)
    have x3 := bxg.thaw (jo * 8 + 3)
    have x4 := bxg.thaw (jo * 8 + 4)
    have x5 := bxg.thaw (jo * 8 + 5)
    have x6 := bxg.thaw (jo * 8 + 6)
    have x7 := bxg.thaw (jo * 8 + 7)
    have FIN := Lib.hid (put_back (n0 := n0) (w := w) (a := 0) (t' := ({ uc with num := uc.num + 1 }, us, uq)) t3 rfl hu3 ⟨(t3.get hu3).1, (t3.get hu3).2⟩ (fun j b hj hne => ⟨(t3.2.2 jo j (uc, us, uq) b hu3 hj (fun e => hne e.symm)).1, (t3.2.2 jo j (uc, us, uq) b hu3 hj (fun e => hne e.symm)).2⟩) hb3 hz3 hk3)
    clear bO bRun bCl bRt t2 K2 h0w bV hbV tV hw bxg hgg cV rV bxV t3 hu3 b3 r3 hb3 hz3 hk3 hg0 hgl hu ht hp
    clear hT t0 t1 hu0 ht1 K0 K1 z0 z1 hto
    go_enter Tryz.func63, Tryz.ntmps63
    go_wp2
    go_ret
    rw [EM.out]
    exact FIN.out
end Go.Proofs.YtbopficnajdaoaaGreatDoor

namespace Go.Proofs.YtbopficnajdaoaaGreatDoor
open Go.RowKit
set_option maxRecDepth 100000
set_option linter.unusedVariables false

theorem l2Less_ok (x : R5) (h : x.ok = true) (a b c : Bool) (w : World) :
    Calls Tryz.prog 61 #[rgt x.t x.v x.r x.w x.k, .bool a, .bool b, .bool c] w fun e w' => e = .returned (R5.val (lessR x a b c)) ∧ Below w.heap.size w w' := by
  have h' : okR x.t x.v x.r x.w x.k = true := h
  by_cases ht : x.t = 0
  · obtain ⟨t, v, r, wr, k⟩ := x
    dsimp only at ht h'
    subst ht
    obtain ⟨rfl, rfl, rfl, rfl⟩ := okR_null h'
    clear h h'
    go_enter Tryz.func61, Tryz.ntmps61
    go_wp2
    refine bodyPost_ret (v := rgt 0 0 false false false) (by simp [results, Tryz.results61, go_sem]) rfl ⟨by simp [lessR, lsG, lsA], ?_⟩
    exact ((Below.refl _ _).alloc (Nat.le_refl _) _).alloc (by simp) _
  · refine (l2Less_some x.t x.v x.r x.w x.k a b c w ht).mono fun e w' he => ⟨?_, he.2⟩
    rw [he.1]
    simp [lessR, lsG, lsA, h', ht]
set_option maxHeartbeats 4000000 in
theorem l12Far_5 (n0 : Nat) (ts : List Tr) (g N sc : Nat) (jr ja jb : Nat) (cn : Int) (jo : Nat) (rv : Int) (rr rw_ rk : Bool) (tc uc : T8) (ta tcp : Nat) (tq us uq : Sl) (w : World) (hT : TaW n0 w ⟨some ⟨g, 0, none⟩, N, sc⟩ ts) (hn : n0 ≤ w.heap.size) (h8 : N ≤ 8) (hjr : jr < N) (hjo : jo < N) (ht : ts[jr]? = some (tc, ⟨some ⟨ta, 0, none⟩, 4, tcp⟩, tq)) (hu : ts[jo]? = some (uc, us, uq)) (jn ua ucp : Nat) (x y : R5) (hus : us = ⟨some ⟨ua, 0, none⟩, 4, ucp⟩) (hx : tc.slots[jb]? = some x) (hy : uc.slots[jn]? = some y) (hjb : jb < 4) (hjn : jn < 4) (hrem : Int.tmod cn 4 = (jn : Int)) :
    Calls Tryz.prog 63 #[.slice (some ⟨g, 0, none⟩) N sc, .agg #[.int .i64 5, .int .i64 ((jr : Int) + 1), .int .i64 (ja : Int), .int .i64 (jb : Int), .int .i64 cn], .agg #[.int .i64 ((jo : Int) + 1), .int .i64 rv, .bool rr, .bool rw_, .bool rk]] w (DeedPost n0 w ⟨some ⟨g, 0, none⟩, N, sc⟩ (ts.set jo ({ uc with slots := uc.slots.set jn x }, us, uq)) 0) := by
  obtain ⟨Y0, hY0⟩ : ∃ Y0, (w.alloc (.cells (C5.cs ⟨5, (jr : Int) + 1, (ja : Int), (jb : Int), cn⟩) 25)).alloc (.cells (R5.cs ⟨(jo : Int) + 1, rv, rr, rw_, rk⟩) 34) = Y0 := ⟨_, rfl⟩
  have K0 := ((Kn.refl (w := w)).new 25 (C5.cs ⟨5, (jr : Int) + 1, (ja : Int), (jb : Int), cn⟩)).new 34 (R5.cs ⟨(jo : Int) + 1, rv, rr, rw_, rk⟩)
  rw [show (w.alloc (.cells (C5.cs ⟨5, (jr : Int) + 1, (ja : Int), (jb : Int), cn⟩) 25)).heap.size = w.heap.size + 1 by simp, hY0] at K0
  have t0 := hT.stay K0.1
  have hu0 := t0.at rfl hu
  have cu0 := hu0 0 _ rfl
  rw [Nat.add_zero] at cu0
  have cu1 := hu0 1 _ rfl
  have cu2 := hu0 2 _ rfl
  have cu3 := hu0 3 _ rfl
  have cu4 := hu0 4 _ rfl
  have cu5 := hu0 5 _ rfl
  have cu6 := hu0 6 _ rfl
  have cu7 := hu0 7 _ rfl
  have r0 := K0.c (b := w.heap.size + 1) (T := 34) (vs := R5.cs ⟨(jo : Int) + 1, rv, rr, rw_, rk⟩) (by simp) 0 _ rfl
  obtain ⟨Y1, hY1⟩ : ∃ Y1, Y0.alloc (.cells (T8.cs uc us uq) 40) = Y1 := ⟨_, rfl⟩
  have K1 := K0.new 40 (T8.cs uc us uq)
  rw [hY1] at K1
  have t1 := hT.stay K1.1
  have ht1 := t1.at rfl ht
  have ct0 := ht1 0 _ rfl
  rw [Nat.add_zero] at ct0
  have ct1 := ht1 1 _ rfl
  have ct2 := ht1 2 _ rfl
  have ct3 := ht1 3 _ rfl
  have ct4 := ht1 4 _ rfl
  have ct5 := ht1 5 _ rfl
  have ct6 := ht1 6 _ rfl
  have ct7 := ht1 7 _ rfl
  have q1 := K1.c (b := w.heap.size) (T := 25) (vs := C5.cs ⟨5, (jr : Int) + 1, (ja : Int), (jb : Int), cn⟩) (by simp) 1 _ rfl
  obtain ⟨Y2, hY2⟩ : ∃ Y2, Y1.alloc (.cells (T8.cs tc ⟨some ⟨ta, 0, none⟩, 4, tcp⟩ tq) 40) = Y2 := ⟨_, rfl⟩
  have K2 := K1.new 40 (T8.cs tc ⟨some ⟨ta, 0, none⟩, 4, tcp⟩ tq)
  rw [hY2] at K2
  have t2 := hT.stay K2.1
  have z0 : Y0.heap.size = w.heap.size + 2 := by rw [← hY0]; simp
  have z1 : Y1.heap.size = w.heap.size + 3 := by rw [← hY1]; simp [z0]
  have k0 := K2.c (b := w.heap.size) (T := 25) (vs := C5.cs ⟨5, (jr : Int) + 1, (ja : Int), (jb : Int), cn⟩) (by simp) 0 _ rfl
  have bO := K2.box (b := Y0.heap.size) (T := 40) (vs := T8.cs uc us uq) (by simp)
  have bRun := K2.box (b := Y1.heap.size) (T := 40) (vs := T8.cs tc ⟨some ⟨ta, 0, none⟩, 4, tcp⟩ tq) (by simp)
  have bCl := K2.box (b := w.heap.size) (T := 25) (vs := C5.cs ⟨5, (jr : Int) + 1, (ja : Int), (jb : Int), cn⟩) (by simp)
  have bRt := K2.box (b := w.heap.size + 1) (T := 34) (vs := R5.cs ⟨(jo : Int) + 1, rv, rr, rw_, rk⟩) (by simp)
  have hjrI : (jr : Int) < (N : Int) := by omega
  have hjoI : (jo : Int) < (N : Int) := by omega
  have h0w : Below w.heap.size w Y2 := K2.1
  subst hus
  have k3 := bCl.cell 3 _ rfl
  have k4 := bCl.cell 4 _ rfl
  have o5 := bO.cell 5 _ rfl
  have e5 := bRun.cell 5 _ rfl
  have hra := (t2.get ht).1.at szR rfl hx
  have ra0 := hra 0 _ rfl
  rw [Nat.add_zero] at ra0
  have ra1 := hra 1 _ rfl
  have ra2 := hra 2 _ rfl
  have ra3 := hra 3 _ rfl
  have ra4 := hra 4 _ rfl
  have hrb := (t2.get hu).1.at szR rfl hy
  have rb0 := hrb 0 _ rfl
  rw [Nat.add_zero] at rb0
  have rb1 := hrb 1 _ rfl
  have rb2 := hrb 2 _ rfl
  have rb3 := hrb 3 _ rfl
  have rb4 := hrb 4 _ rfl
  obtain ⟨b2, TB, cur2, hTB, e2, hb2, bx2, -⟩ := rowFour (t2.get hu).1 (show uc.slots.length = 4 by rw [← (t2.get hu).1.1])
  cases e2
  have hz2 := rowBig (t2.get hu).1 (show uc.slots.length = 4 by rw [← (t2.get hu).1.1]) rfl bx2
  have rf0 := bx2.thaw (jn * 5)
  have rf1 := bx2.thaw (jn * 5 + 1)
  have rf2 := bx2.thaw (jn * 5 + 2)
  have rf3 := bx2.thaw (jn * 5 + 3)
  have rf4 := bx2.thaw (jn * 5 + 4)
  have hlt : jn < uc.slots.length := (List.getElem?_eq_some_iff.1 hy).1
  have t3 : TaW n0 (set5 Y2 ua (jn * 5) x).drew ⟨some ⟨g, 0, none⟩, N, sc⟩ (ts.set jo ({ uc with slots := uc.slots.set jn x }, ⟨some ⟨ua, 0, none⟩, 4, ucp⟩, uq)) := (t2.slot hu (b := ua) rfl (k := jn) hlt x).drew
  obtain ⟨V, hV⟩ : ∃ V, (set5 Y2 ua (jn * 5) x).drew = V := ⟨_, rfl⟩
  rw [hV] at t3
  have hjl : jo < ts.length := (List.getElem?_eq_some_iff.1 hu).1
  have hu3 : (ts.set jo ({ uc with slots := uc.slots.set jn x }, ⟨some ⟨ua, 0, none⟩, 4, ucp⟩, uq))[jo]? = some ({ uc with slots := uc.slots.set jn x }, ⟨some ⟨ua, 0, none⟩, 4, ucp⟩, uq) := by simp [hjl]
  have uaw : ua < w.heap.size := by
    obtain ⟨b', _, _, _, e', _, bb, _⟩ := rowFour (hT.get hu).1 (show uc.slots.length = 4 by rw [← (hT.get hu).1.1])
    cases e'
    exact bb.lt
  have b3 : Box V Y0.heap.size 40 (T8.cs { uc with slots := uc.slots.set jn x } ⟨some ⟨ua, 0, none⟩, 4, ucp⟩ uq) := hV ▸ (set5_other (W := Y2) bO (show Y0.heap.size ≠ ua by omega) x).drew
  have r3 : Box V (w.heap.size + 1) 34 (R5.cs ⟨(jo : Int) + 1, rv, rr, rw_, rk⟩) := hV ▸ (set5_other (W := Y2) bRt (show w.heap.size + 1 ≠ ua by omega) x).drew
  have m0 := r3.cell 0 _ rfl
  have hb3 : Below n0 w V := hV ▸ ((h0w.mono hn).trans (set5_below hb2 x)).drew
  have hz3 : w.heap.size ≤ V.heap.size := by have := h0w.size; rw [← hV]; show w.heap.size ≤ (set5 Y2 ua (jn * 5) x).heap.size; rw [set5_size]; exact this
  have hk3 : ∀ b T cs, b < w.heap.size → Off T cs → Box w b T cs → Box V b T cs := fun b T cs _ hN kx => hV ▸ (set5_other (W := Y2) (kx.stay h0w) (hN.row (kx.stay h0w) bx2 hTB hz2) x).drew
  have v0 := b3.cell 0 _ rfl
  have v1 := b3.cell 1 _ rfl
  have v2 := b3.cell 2 _ rfl
  have v3 := b3.cell 3 _ rfl
  have v4 := b3.cell 4 _ rfl
  have v5 := b3.cell 5 _ rfl
  have v6 := b3.cell 6 _ rfl
  have v7 := b3.cell 7 _ rfl
  have hw := (t3).at (g := g) rfl hu3
  have w0 := hw 0 _ rfl
  rw [Nat.add_zero] at w0
  have w1 := hw 1 _ rfl
  have w2 := hw 2 _ rfl
  have w3 := hw 3 _ rfl
  have w4 := hw 4 _ rfl
  have w5 := hw 5 _ rfl
  have w6 := hw 6 _ rfl
  have w7 := hw 7 _ rfl
  obtain ⟨-, hgg, -, curg, bxg⟩ := (t3).1.blk (b := g) (o := 0) rfl
  have x0 := bxg.thaw (jo * 8)
  have x1 := bxg.thaw (jo * 8 + 1)
  have x2 := bxg.thaw (jo * 8 + 2)
  have x3 := bxg.thaw (jo * 8 + 3)
  have x4 := bxg.thaw (jo * 8 + 4)
  have x5 := bxg.thaw (jo * 8 + 5)
  have x6 := bxg.thaw (jo * 8 + 6)
  have x7 := bxg.thaw (jo * 8 + 7)
  have FIN := Lib.hid (put_back (n0 := n0) (w := w) (a := 0) (t' := ({ uc with slots := uc.slots.set jn x }, ⟨some ⟨ua, 0, none⟩, 4, ucp⟩, uq)) t3 rfl hu3 (t3.get hu3) (fun j b hj hne => t3.2.2 jo j _ b hu3 hj (fun e => hne e.symm)) hb3 hz3 hk3)
  have HSS := Lib.hid (show (ts.set jo ({ uc with slots := uc.slots.set jn x }, ⟨some ⟨ua, 0, none⟩, 4, ucp⟩, uq)).set jo ({ uc with slots := uc.slots.set jn x }, ⟨some ⟨ua, 0, none⟩, 4, ucp⟩, uq) = ts.set jo ({ uc with slots := uc.slots.set jn x }, ⟨some ⟨ua, 0, none⟩, 4, ucp⟩, uq) by rw [List.set_set])
  have hj2 : (jn : Int) < 4 := by omega
  have hj3 : (jb : Int) < 4 := by omega
  have HV := Lib.hid hV
  clear hV
  clear bO bRun bCl bRt t2 K2 h0w hw bxg hgg t3 hu3 b3 r3 hb3 hz3 hk3 hra hrb bx2 hb2 hTB hu ht hx hy
  clear hT t0 t1 hu0 ht1 K0 K1 z0 z1
  go_enter Tryz.func63, Tryz.ntmps63
  go_wp2_with fail
  have hVV : (((((Y2.setCell ⟨ua, jn * 5, none⟩ (.int .i64 x.t)).setCell ⟨ua, jn * 5 + 1, none⟩ (.int .i64 x.v)).setCell ⟨ua, jn * 5 + 2, none⟩ (.bool x.r)).setCell ⟨ua, jn * 5 + 3, none⟩ (.bool x.w)).setCell ⟨ua, jn * 5 + 4, none⟩ (.bool x.k)).drew = V := HV.out
  go_region
  all_goals
    go_wp2
    go_ret
    rw [← HSS.out]
    exact FIN.out
set_option maxHeartbeats 4000000 in
theorem l12Far_4 (n0 : Nat) (ts : List Tr) (g N sc : Nat) (jr ja jb : Nat) (cn : Int) (jo : Nat) (rv : Int) (rr rw_ rk : Bool) (tc uc : T8) (ta tcp : Nat) (tq us uq : Sl) (w : World) (hT : TaW n0 w ⟨some ⟨g, 0, none⟩, N, sc⟩ ts) (hn : n0 ≤ w.heap.size) (h8 : N ≤ 8) (hjr : jr < N) (hjo : jo < N) (ht : ts[jr]? = some (tc, ⟨some ⟨ta, 0, none⟩, 4, tcp⟩, tq)) (hu : ts[jo]? = some (uc, us, uq)) (jn ua ucp : Nat) (x y : R5) (hus : us = ⟨some ⟨ua, 0, none⟩, 4, ucp⟩) (hx : uc.slots[jn]? = some x) (hy : tc.slots[jb]? = some y) (hok : x.ok = true) (hjb : jb < 4) (hjn : jn < 4) (hrem : Int.tmod cn 4 = (jn : Int)) :
    Calls Tryz.prog 63 #[.slice (some ⟨g, 0, none⟩) N sc, .agg #[.int .i64 4, .int .i64 ((jr : Int) + 1), .int .i64 (ja : Int), .int .i64 (jb : Int), .int .i64 cn], .agg #[.int .i64 ((jo : Int) + 1), .int .i64 rv, .bool rr, .bool rw_, .bool rk]] w (DeedPost n0 w ⟨some ⟨g, 0, none⟩, N, sc⟩ (ts.set jr ({ tc with slots := tc.slots.set jb (if rk then lessR x true false false else x) }, ⟨some ⟨ta, 0, none⟩, 4, tcp⟩, tq)) 0) := by
  obtain ⟨Y0, hY0⟩ : ∃ Y0, (w.alloc (.cells (C5.cs ⟨4, (jr : Int) + 1, (ja : Int), (jb : Int), cn⟩) 25)).alloc (.cells (R5.cs ⟨(jo : Int) + 1, rv, rr, rw_, rk⟩) 34) = Y0 := ⟨_, rfl⟩
  have K0 := ((Kn.refl (w := w)).new 25 (C5.cs ⟨4, (jr : Int) + 1, (ja : Int), (jb : Int), cn⟩)).new 34 (R5.cs ⟨(jo : Int) + 1, rv, rr, rw_, rk⟩)
  rw [show (w.alloc (.cells (C5.cs ⟨4, (jr : Int) + 1, (ja : Int), (jb : Int), cn⟩) 25)).heap.size = w.heap.size + 1 by simp, hY0] at K0
  have t0 := hT.stay K0.1
  have hu0 := t0.at rfl hu
  have cu0 := hu0 0 _ rfl
  rw [Nat.add_zero] at cu0
  have cu1 := hu0 1 _ rfl
  have cu2 := hu0 2 _ rfl
  have cu3 := hu0 3 _ rfl
  have cu4 := hu0 4 _ rfl
  have cu5 := hu0 5 _ rfl
  have cu6 := hu0 6 _ rfl
  have cu7 := hu0 7 _ rfl
  have r0 := K0.c (b := w.heap.size + 1) (T := 34) (vs := R5.cs ⟨(jo : Int) + 1, rv, rr, rw_, rk⟩) (by simp) 0 _ rfl
  obtain ⟨Y1, hY1⟩ : ∃ Y1, Y0.alloc (.cells (T8.cs uc us uq) 40) = Y1 := ⟨_, rfl⟩
  have K1 := K0.new 40 (T8.cs uc us uq)
  rw [hY1] at K1
  have t1 := hT.stay K1.1
  have ht1 := t1.at rfl ht
  have ct0 := ht1 0 _ rfl
  rw [Nat.add_zero] at ct0
  have ct1 := ht1 1 _ rfl
  have ct2 := ht1 2 _ rfl
  have ct3 := ht1 3 _ rfl
  have ct4 := ht1 4 _ rfl
  have ct5 := ht1 5 _ rfl
  have ct6 := ht1 6 _ rfl
  have ct7 := ht1 7 _ rfl
  have q1 := K1.c (b := w.heap.size) (T := 25) (vs := C5.cs ⟨4, (jr : Int) + 1, (ja : Int), (jb : Int), cn⟩) (by simp) 1 _ rfl
  obtain ⟨Y2, hY2⟩ : ∃ Y2, Y1.alloc (.cells (T8.cs tc ⟨some ⟨ta, 0, none⟩, 4, tcp⟩ tq) 40) = Y2 := ⟨_, rfl⟩
  have K2 := K1.new 40 (T8.cs tc ⟨some ⟨ta, 0, none⟩, 4, tcp⟩ tq)
  rw [hY2] at K2
  have t2 := hT.stay K2.1
  have z0 : Y0.heap.size = w.heap.size + 2 := by rw [← hY0]; simp
  have z1 : Y1.heap.size = w.heap.size + 3 := by rw [← hY1]; simp [z0]
  have k0 := K2.c (b := w.heap.size) (T := 25) (vs := C5.cs ⟨4, (jr : Int) + 1, (ja : Int), (jb : Int), cn⟩) (by simp) 0 _ rfl
  have bO := K2.box (b := Y0.heap.size) (T := 40) (vs := T8.cs uc us uq) (by simp)
  have bRun := K2.box (b := Y1.heap.size) (T := 40) (vs := T8.cs tc ⟨some ⟨ta, 0, none⟩, 4, tcp⟩ tq) (by simp)
  have bCl := K2.box (b := w.heap.size) (T := 25) (vs := C5.cs ⟨4, (jr : Int) + 1, (ja : Int), (jb : Int), cn⟩) (by simp)
  have bRt := K2.box (b := w.heap.size + 1) (T := 34) (vs := R5.cs ⟨(jo : Int) + 1, rv, rr, rw_, rk⟩) (by simp)
  have hjrI : (jr : Int) < (N : Int) := by omega
  have hjoI : (jo : Int) < (N : Int) := by omega
  have h0w : Below w.heap.size w Y2 := K2.1
  subst hus
  obtain ⟨z, hz⟩ : ∃ z, (if rk then lessR x true false false else x) = z := ⟨_, rfl⟩
  rw [hz]
  have HZ := Lib.hid hz
  clear hz
  have k4 := bCl.cell 4 _ rfl
  have o5 := bO.cell 5 _ rfl
  have hra := (t2.get hu).1.at szR rfl hx
  have ra0 := hra 0 _ rfl
  rw [Nat.add_zero] at ra0
  have ra1 := hra 1 _ rfl
  have ra2 := hra 2 _ rfl
  have ra3 := hra 3 _ rfl
  have ra4 := hra 4 _ rfl
  obtain ⟨Y3, hY3⟩ : ∃ Y3, Y2.alloc (.cells (R5.cs x) 34) = Y3 := ⟨_, rfl⟩
  have b3 : Below Y2.heap.size Y2 Y3 := hY3 ▸ (Below.refl _ _).alloc (Nat.le_refl _) _
  have bX : Box Y3 Y2.heap.size 34 (R5.cs x) := hY3 ▸ Box.fresh _ _ _
  have rt4 := (bRt.stay b3).cell 4 _ rfl
  have hj2 : (jn : Int) < 4 := by omega
  have hj3 : (jb : Int) < 4 := by omega
  have T2 := Lib.hid t2
  have HW := Lib.hid h0w
  have B3 := Lib.hid b3
  have BX := Lib.hid bX
  have BCL := Lib.hid bCl
  have BRUN := Lib.hid bRun
  have H40 := Lib.hid ht
  have HYY := Lib.hid hy
  have HOK := Lib.hid hok
  clear bO bRun bCl bRt t2 K2 h0w hra hu ht hx hy bX b3 hok
  clear hT t0 t1 hu0 ht1 K0 K1 z0 z1
  have qx0 := BX.out.cell 0 _ rfl
  have qx1 := BX.out.cell 1 _ rfl
  have qx2 := BX.out.cell 2 _ rfl
  have qx3 := BX.out.cell 3 _ rfl
  have qx4 := BX.out.cell 4 _ rfl
  go_enter Tryz.func63, Tryz.ntmps63
  go_upto_if 46 with fail
  go_cut [] (fun wx => Below Y2.heap.size Y2 wx ∧ Box wx Y2.heap.size 34 (R5.cs z))
  case first =>
    cases rk
    · have hzx : x = z := HZ.out
      go_wp2_with fail
      go_meet
      exact ⟨B3.out, hzx ▸ BX.out⟩
    · have HZX := Lib.hid (show lessR x true false false = z from HZ.out)
      obtain ⟨zt, zv, zr, zw, zk⟩ := z
      go_wp2_with fail
      refine (l2Less_ok x HOK.out true false false _).mono ?_
      rintro e y2 ⟨rfl, hb⟩
      rw [HZX.out]
      have bR2 := BX.out.stay hb
      have b2 : Below Y2.heap.size Y2 y2 := B3.out.trans (hb.mono B3.out.size)
      have p0 := bR2.cell 0 _ rfl
      have p1 := bR2.cell 1 _ rfl
      have p2 := bR2.cell 2 _ rfl
      have p3 := bR2.cell 3 _ rfl
      have p4 := bR2.cell 4 _ rfl
      have g0 := bR2.thaw 0
      have g1 := bR2.thaw 1
      have g2 := bR2.thaw 2
      have g3 := bR2.thaw 3
      have g4 := bR2.thaw 4
      have HK := Lib.hid (kn_right b2 (Nat.le_refl _) bR2 ⟨zt, zv, zr, zw, zk⟩)
      clear hb b2 bR2
      go_wp2_with fail
      go_meet
      exact HK.out
  case rest =>
    obtain ⟨hB, hR⟩ := hcut
    have HP := Lib.hid (slot_put (w := w) (V := wc) T2.out hn HW.out rfl H40.out HYY.out hB z).1
    obtain ⟨-, -, a0, a1, a2, a3, a4, f0, f1, f2, f3, f4⟩ := slot_put (w := w) (V := wc) T2.out hn HW.out rfl H40.out HYY.out hB z
    have c3 := (BCL.out.stay hB).cell 3 _ rfl
    have e5 := (BRUN.out.stay hB).cell 5 _ rfl
    have nn0 := hR.cell 0 _ rfl
    have n1 := hR.cell 1 _ rfl
    have n2 := hR.cell 2 _ rfl
    have n3 := hR.cell 3 _ rfl
    have n4 := hR.cell 4 _ rfl
    clear hB hR
    go_wp2
    go_ret
    exact HP.out
end Go.Proofs.YtbopficnajdaoaaGreatDoor

namespace Go.Proofs.YtbopficnajdaoaaGreatDoor
open Go.RowKit
set_option maxRecDepth 100000
set_option linter.unusedVariables false

theorem put8_over {W : World} {b : Nat} {T : TypeId} (u : T8) (s0 q0 : Sl) (x : T8) (s q : Sl) (bz : Box W b T (T8.cs u s0 q0)) : Box (put8 W b x s q) b T (T8.cs x s q) := by
  have := (((((((bz.put 0 (.int .i64 x.kind)).put 1 (.int .i64 x.sec)).put 2 (.int .i64 x.vou)).put 3 (.int .i64 x.vers)).put 4 (.int .i64 x.num)).put 5 (.slice s.a s.n s.c)).put 6 (.slice q.a q.n q.c)).put 7 (.int .i64 x.to)
  simpa using this
set_option maxHeartbeats 4000000 in
theorem l12Far_8o (n0 : Nat) (ts : List Tr) (g N sc : Nat) (jr ja jb : Nat) (cn : Int) (jo : Nat) (rv : Int) (rr rw_ rk : Bool) (tc uc : T8) (ta tcp : Nat) (tq us uq : Sl) (w : World) (hT : TaW n0 w ⟨some ⟨g, 0, none⟩, N, sc⟩ ts) (hn : n0 ≤ w.heap.size) (h8 : N ≤ 8) (hjr : jr < N) (hjo : jo < N) (ht : ts[jr]? = some (tc, ⟨some ⟨ta, 0, none⟩, 4, tcp⟩, tq)) (hu : ts[jo]? = some (uc, us, uq)) (hv : uc.vers = 5) :
    Calls Tryz.prog 63 #[.slice (some ⟨g, 0, none⟩) N sc, .agg #[.int .i64 8, .int .i64 ((jr : Int) + 1), .int .i64 (ja : Int), .int .i64 (jb : Int), .int .i64 cn], .agg #[.int .i64 ((jo : Int) + 1), .int .i64 rv, .bool rr, .bool rw_, .bool rk]] w (DeedPost n0 w ⟨some ⟨g, 0, none⟩, N, sc⟩ ts (-4)) := by
  obtain ⟨Y0, hY0⟩ : ∃ Y0, (w.alloc (.cells (C5.cs ⟨8, (jr : Int) + 1, (ja : Int), (jb : Int), cn⟩) 25)).alloc (.cells (R5.cs ⟨(jo : Int) + 1, rv, rr, rw_, rk⟩) 34) = Y0 := ⟨_, rfl⟩
  have K0 := ((Kn.refl (w := w)).new 25 (C5.cs ⟨8, (jr : Int) + 1, (ja : Int), (jb : Int), cn⟩)).new 34 (R5.cs ⟨(jo : Int) + 1, rv, rr, rw_, rk⟩)
  rw [show (w.alloc (.cells (C5.cs ⟨8, (jr : Int) + 1, (ja : Int), (jb : Int), cn⟩) 25)).heap.size = w.heap.size + 1 by simp, hY0] at K0
  have t0 := hT.stay K0.1
  have hu0 := t0.at rfl hu
  have cu0 := hu0 0 _ rfl
  rw [Nat.add_zero] at cu0
  have cu1 := hu0 1 _ rfl
  have cu2 := hu0 2 _ rfl
  have cu3 := hu0 3 _ rfl
  have cu4 := hu0 4 _ rfl
  have cu5 := hu0 5 _ rfl
  have cu6 := hu0 6 _ rfl
  have cu7 := hu0 7 _ rfl
  have r0 := K0.c (b := w.heap.size + 1) (T := 34) (vs := R5.cs ⟨(jo : Int) + 1, rv, rr, rw_, rk⟩) (by simp) 0 _ rfl
  obtain ⟨Y1, hY1⟩ : ∃ Y1, Y0.alloc (.cells (T8.cs uc us uq) 40) = Y1 := ⟨_, rfl⟩
  have K1 := K0.new 40 (T8.cs uc us uq)
  rw [hY1] at K1
  have t1 := hT.stay K1.1
  have ht1 := t1.at rfl ht
  have ct0 := ht1 0 _ rfl
  rw [Nat.add_zero] at ct0
  have ct1 := ht1 1 _ rfl
  have ct2 := ht1 2 _ rfl
  have ct3 := ht1 3 _ rfl
  have ct4 := ht1 4 _ rfl
  have ct5 := ht1 5 _ rfl
  have ct6 := ht1 6 _ rfl
  have ct7 := ht1 7 _ rfl
  have q1 := K1.c (b := w.heap.size) (T := 25) (vs := C5.cs ⟨8, (jr : Int) + 1, (ja : Int), (jb : Int), cn⟩) (by simp) 1 _ rfl
  obtain ⟨Y2, hY2⟩ : ∃ Y2, Y1.alloc (.cells (T8.cs tc ⟨some ⟨ta, 0, none⟩, 4, tcp⟩ tq) 40) = Y2 := ⟨_, rfl⟩
  have K2 := K1.new 40 (T8.cs tc ⟨some ⟨ta, 0, none⟩, 4, tcp⟩ tq)
  rw [hY2] at K2
  have t2 := hT.stay K2.1
  have z0 : Y0.heap.size = w.heap.size + 2 := by rw [← hY0]; simp
  have z1 : Y1.heap.size = w.heap.size + 3 := by rw [← hY1]; simp [z0]
  have k0 := K2.c (b := w.heap.size) (T := 25) (vs := C5.cs ⟨8, (jr : Int) + 1, (ja : Int), (jb : Int), cn⟩) (by simp) 0 _ rfl
  have bO := K2.box (b := Y0.heap.size) (T := 40) (vs := T8.cs uc us uq) (by simp)
  have bRun := K2.box (b := Y1.heap.size) (T := 40) (vs := T8.cs tc ⟨some ⟨ta, 0, none⟩, 4, tcp⟩ tq) (by simp)
  have bCl := K2.box (b := w.heap.size) (T := 25) (vs := C5.cs ⟨8, (jr : Int) + 1, (ja : Int), (jb : Int), cn⟩) (by simp)
  have bRt := K2.box (b := w.heap.size + 1) (T := 34) (vs := R5.cs ⟨(jo : Int) + 1, rv, rr, rw_, rk⟩) (by simp)
  have hjrI : (jr : Int) < (N : Int) := by omega
  have hjoI : (jo : Int) < (N : Int) := by omega
  have h0w : Below w.heap.size w Y2 := K2.1
  have o3 : Y2.cell? ⟨Y0.heap.size, 3, none⟩ = some (.int .i64 uc.vers) := bO.cell 3 _ rfl
  rw [hv] at o3
  have hob : w.heap.size ≤ Y0.heap.size := by omega
  have hgb : g < w.heap.size := (hT.1.blk (b := g) (o := 0) rfl).2.2.1
  have T2 := Lib.hid t2
  have HW := Lib.hid h0w
  have BO := Lib.hid bO
  have BRT := Lib.hid bRt
  have BCL := Lib.hid bCl
  have HU := Lib.hid hu
  clear hT t0 t1 hu0 ht1 K0 K1 z0 z1 bO bRun bCl bRt t2 K2 h0w hu ht
  clear hv
  go_enter Tryz.func63, Tryz.ntmps63
  go_wp2
  go_ret
  exact dp_same T2.out HW.out hn
set_option maxHeartbeats 4000000 in
theorem l12Far_8 (n0 : Nat) (ts : List Tr) (g N sc : Nat) (jr ja jb : Nat) (cn : Int) (jo : Nat) (rv : Int) (rr rw_ rk : Bool) (tc uc : T8) (ta tcp : Nat) (tq us uq : Sl) (w : World) (hT : TaW n0 w ⟨some ⟨g, 0, none⟩, N, sc⟩ ts) (hn : n0 ≤ w.heap.size) (h8 : N ≤ 8) (hjr : jr < N) (hjo : jo < N) (ht : ts[jr]? = some (tc, ⟨some ⟨ta, 0, none⟩, 4, tcp⟩, tq)) (hu : ts[jo]? = some (uc, us, uq)) (hv : 0 ≤ uc.vers ∧ uc.vers < 5) (hto : uc.to = 0) (ho : okT (newT uc.kind uc.sec uc.vou 0) = true) :
    Calls Tryz.prog 63 #[.slice (some ⟨g, 0, none⟩) N sc, .agg #[.int .i64 8, .int .i64 ((jr : Int) + 1), .int .i64 (ja : Int), .int .i64 (jb : Int), .int .i64 cn], .agg #[.int .i64 ((jo : Int) + 1), .int .i64 rv, .bool rr, .bool rw_, .bool rk]] w (fun e w' => ∃ ss q : Sl, DeedPost n0 w ⟨some ⟨g, 0, none⟩, N, sc⟩ (ts.set jo ({ newT uc.kind uc.sec uc.vou 0 with vers := uc.vers + 1 }, ss, q)) 0 e w') := by
  obtain ⟨Y0, hY0⟩ : ∃ Y0, (w.alloc (.cells (C5.cs ⟨8, (jr : Int) + 1, (ja : Int), (jb : Int), cn⟩) 25)).alloc (.cells (R5.cs ⟨(jo : Int) + 1, rv, rr, rw_, rk⟩) 34) = Y0 := ⟨_, rfl⟩
  have K0 := ((Kn.refl (w := w)).new 25 (C5.cs ⟨8, (jr : Int) + 1, (ja : Int), (jb : Int), cn⟩)).new 34 (R5.cs ⟨(jo : Int) + 1, rv, rr, rw_, rk⟩)
  rw [show (w.alloc (.cells (C5.cs ⟨8, (jr : Int) + 1, (ja : Int), (jb : Int), cn⟩) 25)).heap.size = w.heap.size + 1 by simp, hY0] at K0
  have t0 := hT.stay K0.1
  have hu0 := t0.at rfl hu
  have cu0 := hu0 0 _ rfl
  rw [Nat.add_zero] at cu0
  have cu1 := hu0 1 _ rfl
  have cu2 := hu0 2 _ rfl
  have cu3 := hu0 3 _ rfl
  have cu4 := hu0 4 _ rfl
  have cu5 := hu0 5 _ rfl
  have cu6 := hu0 6 _ rfl
  have cu7 := hu0 7 _ rfl
  have r0 := K0.c (b := w.heap.size + 1) (T := 34) (vs := R5.cs ⟨(jo : Int) + 1, rv, rr, rw_, rk⟩) (by simp) 0 _ rfl
  obtain ⟨Y1, hY1⟩ : ∃ Y1, Y0.alloc (.cells (T8.cs uc us uq) 40) = Y1 := ⟨_, rfl⟩
  have K1 := K0.new 40 (T8.cs uc us uq)
  rw [hY1] at K1
  have t1 := hT.stay K1.1
  have ht1 := t1.at rfl ht
  have ct0 := ht1 0 _ rfl
  rw [Nat.add_zero] at ct0
  have ct1 := ht1 1 _ rfl
  have ct2 := ht1 2 _ rfl
  have ct3 := ht1 3 _ rfl
  have ct4 := ht1 4 _ rfl
  have ct5 := ht1 5 _ rfl
  have ct6 := ht1 6 _ rfl
  have ct7 := ht1 7 _ rfl
  have q1 := K1.c (b := w.heap.size) (T := 25) (vs := C5.cs ⟨8, (jr : Int) + 1, (ja : Int), (jb : Int), cn⟩) (by simp) 1 _ rfl
  obtain ⟨Y2, hY2⟩ : ∃ Y2, Y1.alloc (.cells (T8.cs tc ⟨some ⟨ta, 0, none⟩, 4, tcp⟩ tq) 40) = Y2 := ⟨_, rfl⟩
  have K2 := K1.new 40 (T8.cs tc ⟨some ⟨ta, 0, none⟩, 4, tcp⟩ tq)
  rw [hY2] at K2
  have t2 := hT.stay K2.1
  have z0 : Y0.heap.size = w.heap.size + 2 := by rw [← hY0]; simp
  have z1 : Y1.heap.size = w.heap.size + 3 := by rw [← hY1]; simp [z0]
  have k0 := K2.c (b := w.heap.size) (T := 25) (vs := C5.cs ⟨8, (jr : Int) + 1, (ja : Int), (jb : Int), cn⟩) (by simp) 0 _ rfl
  have bO := K2.box (b := Y0.heap.size) (T := 40) (vs := T8.cs uc us uq) (by simp)
  have bRun := K2.box (b := Y1.heap.size) (T := 40) (vs := T8.cs tc ⟨some ⟨ta, 0, none⟩, 4, tcp⟩ tq) (by simp)
  have bCl := K2.box (b := w.heap.size) (T := 25) (vs := C5.cs ⟨8, (jr : Int) + 1, (ja : Int), (jb : Int), cn⟩) (by simp)
  have bRt := K2.box (b := w.heap.size + 1) (T := 34) (vs := R5.cs ⟨(jo : Int) + 1, rv, rr, rw_, rk⟩) (by simp)
  have hjrI : (jr : Int) < (N : Int) := by omega
  have hjoI : (jo : Int) < (N : Int) := by omega
  have h0w : Below w.heap.size w Y2 := K2.1
  have o0 := bO.cell 0 _ rfl
  have o1 := bO.cell 1 _ rfl
  have o2 := bO.cell 2 _ rfl
  have o3 := bO.cell 3 _ rfl
  have o7 : Y2.cell? ⟨Y0.heap.size, 7, none⟩ = some (.int .i64 uc.to) := bO.cell 7 _ rfl
  rw [hto] at o7
  have hv5 : ¬ (5 : Int) ≤ uc.vers := by omega
  have hv6 : uc.vers < 5 := by omega
  have hv0 : 0 ≤ uc.vers := hv.1
  have hob : w.heap.size ≤ Y0.heap.size := by omega
  have hgb : g < w.heap.size := (hT.1.blk (b := g) (o := 0) rfl).2.2.1
  have T2 := Lib.hid t2
  have HW := Lib.hid h0w
  have BO := Lib.hid bO
  have BRT := Lib.hid bRt
  have BCL := Lib.hid bCl
  have HU := Lib.hid hu
  have HO := Lib.hid ho
  have Z0 := Lib.hid z0
  clear hto ho hv
  clear hT t0 t1 hu0 ht1 K0 K1 z0 z1 bO bRun bCl bRt t2 K2 h0w hu ht
  go_enter Tryz.func63, Tryz.ntmps63
  go_wp2_with fail
  refine (specTNew_any uc.kind uc.sec uc.vou 0 _).mono ?_
  intro e y5 hN
  obtain ⟨ss, q, rfl, th5, hb5⟩ := new_thW hN HO.out
  clear hN o0 o1 o2 o3 o7
  obtain ⟨nt, hnt⟩ : ∃ nt, newT uc.kind uc.sec uc.vou 0 = nt := ⟨_, rfl⟩
  rw [hnt] at th5 ⊢
  have HNT := Lib.hid hnt
  clear hnt
  obtain ⟨V1, hV1⟩ : ∃ V1, y5.alloc (.cells (T8.cs nt ss q) 40) = V1 := ⟨_, rfl⟩
  have b1 : Below Y2.heap.size Y2 V1 := hV1 ▸ hb5.alloc hb5.size _
  have bN : Box V1 y5.heap.size 40 (T8.cs nt ss q) := hV1 ▸ Box.fresh _ _ _
  have bO1 := BO.out.stay b1
  have o3 := bO1.cell 3 _ rfl
  have n3 := bN.cell 3 _ rfl
  have g3 := bN.thaw 3
  obtain ⟨V2, hV2⟩ : ∃ V2, V1.setCell ⟨y5.heap.size, 3, none⟩ (.int .i64 (uc.vers + 1)) = V2 := ⟨_, rfl⟩
  have zz5 := hb5.size
  have b2 : Below Y2.heap.size Y2 V2 := hV2 ▸ b1.setCell (p := ⟨y5.heap.size, 3, none⟩) zz5 _
  have bN2 : Box V2 y5.heap.size 40 (T8.cs { nt with vers := uc.vers + 1 } ss q) := by
    have := bN.put 3 (.int .i64 (uc.vers + 1))
    rw [hV2] at this
    exact this
  have bO2 := BO.out.stay b2
  have th2 : ThW Y2.heap.size V2 ({ nt with vers := uc.vers + 1 }, ss, q) := by
    have h1 : ThW Y2.heap.size V1 (nt, ss, q) := hV1 ▸ th5.keep (fun b T cs _ _ bx => bx.past _) (fun b T cs _ _ bx => bx.past _)
    have h2 : ThW Y2.heap.size V2 (nt, ss, q) := hV2 ▸ h1.keep (fun b T cs hT _ bx => bx.other (p := ⟨y5.heap.size, 3, none⟩) (Box.ne bx bN hT.neT) _) (fun b T cs hT _ bx => bx.other (p := ⟨y5.heap.size, 3, none⟩) (Box.ne bx bN hT.neT) _)
    exact h2
  obtain ⟨V3, hV3⟩ : ∃ V3, put8 V2 Y0.heap.size { nt with vers := uc.vers + 1 } ss q = V3 := ⟨_, rfl⟩
  have b3w : Below w.heap.size w V3 := hV3 ▸ (HW.out.trans (b2.mono HW.out.size)).trans (put8_below _ ss q hob)
  have bO3 : Box V3 Y0.heap.size 40 (T8.cs { nt with vers := uc.vers + 1 } ss q) := hV3 ▸ put8_over uc us uq _ ss q bO2
  have r3 : Box V3 (w.heap.size + 1) 34 (R5.cs ⟨(jo : Int) + 1, rv, rr, rw_, rk⟩) := hV3 ▸ put8_other _ ss q (BRT.out.stay b2) (show w.heap.size + 1 ≠ Y0.heap.size by have := Z0.out; omega)
  have m0 := r3.cell 0 _ rfl
  have t3 : TaW n0 V3 ⟨some ⟨g, 0, none⟩, N, sc⟩ ts := by
    have tW := T2.out.stay b2
    refine ⟨tW.1.keep fun b cs _ e kx => ?_, fun t ht => (tW.2.1 t ht).keep (fun b T cs hT _ kx => hV3 ▸ put8_other _ ss q kx (Box.ne kx bO2 hT.neT)) (fun b T cs hT _ kx => hV3 ▸ put8_other _ ss q kx (Box.ne kx bO2 hT.neT)), tW.2.2⟩
    cases e
    exact hV3 ▸ put8_other _ ss q kx (by omega)
  have th3 : ThW Y2.heap.size V3 ({ nt with vers := uc.vers + 1 }, ss, q) := th2.keep (fun b T cs hT _ kx => hV3 ▸ put8_other _ ss q kx (Box.ne kx bO2 hT.neT)) (fun b T cs hT _ kx => hV3 ▸ put8_other _ ss q kx (Box.ne kx bO2 hT.neT))
  have FIN := Lib.hid (put_back (n0 := n0) (w := w) (a := 0) (t' := ({ nt with vers := uc.vers + 1 }, ss, q)) t3 rfl HU.out (th3.less (Nat.le_trans hn HW.out.size)) (fun j b hj hne => ((T2.out.get hj).apart th3 (Nat.le_refl _)).symm) (b3w.mono hn) b3w.size (fun b T cs _ _ kx => kx.stay b3w))
  have na0 := bN2.cell 0 _ rfl
  have na1 := bN2.cell 1 _ rfl
  have na2 := bN2.cell 2 _ rfl
  have na3 := bN2.cell 3 _ rfl
  have na4 := bN2.cell 4 _ rfl
  have na5 := bN2.cell 5 _ rfl
  have na6 := bN2.cell 6 _ rfl
  have na7 := bN2.cell 7 _ rfl
  have oa0 := bO2.cell 0 _ rfl
  have oa1 := bO2.cell 1 _ rfl
  have oa2 := bO2.cell 2 _ rfl
  have oa3 := bO2.cell 3 _ rfl
  have oa4 := bO2.cell 4 _ rfl
  have oa5 := bO2.cell 5 _ rfl
  have oa6 := bO2.cell 6 _ rfl
  have oa7 := bO2.cell 7 _ rfl
  have of0 := bO2.thaw 0
  have of1 := bO2.thaw 1
  have of2 := bO2.thaw 2
  have of3 := bO2.thaw 3
  have of4 := bO2.thaw 4
  have of5 := bO2.thaw 5
  have of6 := bO2.thaw 6
  have of7 := bO2.thaw 7
  have v0 := bO3.cell 0 _ rfl
  have v1 := bO3.cell 1 _ rfl
  have v2 := bO3.cell 2 _ rfl
  have v3 := bO3.cell 3 _ rfl
  have v4 := bO3.cell 4 _ rfl
  have v5 := bO3.cell 5 _ rfl
  have v6 := bO3.cell 6 _ rfl
  have v7 := bO3.cell 7 _ rfl
  have hw := (t3).at (g := g) rfl HU.out
  have w0 := hw 0 _ rfl
  rw [Nat.add_zero] at w0
  have w1 := hw 1 _ rfl
  have w2 := hw 2 _ rfl
  have w3 := hw 3 _ rfl
  have w4 := hw 4 _ rfl
  have w5 := hw 5 _ rfl
  have w6 := hw 6 _ rfl
  have w7 := hw 7 _ rfl
  obtain ⟨-, hgg, -, curg, bxg⟩ := (t3).1.blk (b := g) (o := 0) rfl
  have x0 := bxg.thaw (jo * 8)
  have x1 := bxg.thaw (jo * 8 + 1)
  have x2 := bxg.thaw (jo * 8 + 2)
  have x3 := bxg.thaw (jo * 8 + 3)
  have x4 := bxg.thaw (jo * 8 + 4)
  have x5 := bxg.thaw (jo * 8 + 5)
  have x6 := bxg.thaw (jo * 8 + 6)
  have x7 := bxg.thaw (jo * 8 + 7)
  clear th5 hb5 b1 bN bO1 zz5 b2 bN2 bO2 th2 b3w bO3 r3 t3 th3 hw bxg hgg
  go_wp2
  go_ret
  refine ⟨ss, q, ?_⟩
  rw [HNT.out]
  exact FIN.out
end Go.Proofs.YtbopficnajdaoaaGreatDoor

namespace Go.Proofs.YtbopficnajdaoaaGreatDoor
open Go.RowKit
set_option maxRecDepth 100000
set_option linter.unusedVariables false

/-- Numbers of a pipe are others: a thing put back whole. -/
theorem pipe_back {n0 : Nat} {w Y W : World} {s : Sl} {ts : List Tr} {g jo ob : Nat} {uc : T8} {us uq q : Sl} {l : List Int} {a : Int} (hn : n0 ≤ w.heap.size) (hT : TaW n0 Y s ts) (hwY : Below w.heap.size w Y) (hW : Below Y.heap.size Y W) (hs : s.a = some ⟨g, 0, none⟩) (hu : ts[jo]? = some (uc, us, uq)) (hq : OwnQ Y.heap.size W q l) (hob : w.heap.size ≤ ob) (hgb : g < w.heap.size) (bx : Box W ob 40 (T8.cs uc us uq)) :
    DeedPost n0 w s (ts.set jo ({ uc with queue := l }, us, q)) a (.returned (.int .i64 a)) (((((((((W.setCell ⟨ob, 6, none⟩ (.slice q.a q.n q.c)).setCell ⟨g, jo * 8, none⟩ (.int .i64 uc.kind)).setCell ⟨g, jo * 8 + 1, none⟩ (.int .i64 uc.sec)).setCell ⟨g, jo * 8 + 2, none⟩ (.int .i64 uc.vou)).setCell ⟨g, jo * 8 + 3, none⟩ (.int .i64 uc.vers)).setCell ⟨g, jo * 8 + 4, none⟩ (.int .i64 uc.num)).setCell ⟨g, jo * 8 + 5, none⟩ (.slice us.a us.n us.c)).setCell ⟨g, jo * 8 + 6, none⟩ (.slice q.a q.n q.c)).setCell ⟨g, jo * 8 + 7, none⟩ (.int .i64 uc.to)) ∧
    Box (W.setCell ⟨ob, 6, none⟩ (.slice q.a q.n q.c)) ob 40 (T8.cs uc us q) ∧ At (W.setCell ⟨ob, 6, none⟩ (.slice q.a q.n q.c)) g (jo * 8) (Tr.cs (uc, us, uq)) ∧ (∀ i, (W.setCell ⟨ob, 6, none⟩ (.slice q.a q.n q.c)).frozen? ⟨g, i, none⟩ = false) := by
  have hbw : Below w.heap.size w W := hwY.trans (hW.mono hwY.size)
  have hbV : Below w.heap.size w (W.setCell ⟨ob, 6, none⟩ (.slice q.a q.n q.c)) := hbw.setCell (p := ⟨ob, 6, none⟩) hob _
  have tW : TaW n0 W s ts := hT.stay hW
  have tV : TaW n0 (W.setCell ⟨ob, 6, none⟩ (.slice q.a q.n q.c)) s ts := by
    refine ⟨?_, fun t ht => (tW.2.1 t ht).keep (fun b T cs hT _ kx => kx.other (p := ⟨ob, 6, none⟩) (Box.ne kx bx hT.neT) _) (fun b T cs hT _ kx => kx.other (p := ⟨ob, 6, none⟩) (Box.ne kx bx hT.neT) _), tW.2.2⟩
    have hgne : g ≠ ob := by omega
    exact tW.1.keep fun b cs _ e kx => by
      rw [hs] at e
      cases e
      exact kx.other (p := ⟨ob, 6, none⟩) hgne _
  have qV : OwnQ Y.heap.size (W.setCell ⟨ob, 6, none⟩ (.slice q.a q.n q.c)) q l := hq.keep fun b T cs _ hT _ _ kx => kx.other (p := ⟨ob, 6, none⟩) (Box.ne kx bx hT.neT) _
  obtain ⟨-, hg0, hgl, curg, bxg⟩ := tV.1.blk hs
  refine ⟨put_back (n0 := n0) (w := w) (t' := ({ uc with queue := l }, us, q)) tV hs hu ⟨(tV.get hu).1, qV.less (Nat.le_trans hn hwY.size)⟩ (fun j b hj hne => ⟨(tV.2.2 jo j (uc, us, uq) b hu hj (fun e => hne e.symm)).1, (RowF.apart (hT.get hj).2 hq (Nat.le_refl _)).symm⟩) (hbV.mono hn) hbV.size (fun b T cs _ _ kx => kx.stay hbV), ?_, tV.at hs hu, fun i => bxg.thaw i⟩
  have := bx.put 6 (.slice q.a q.n q.c)
  exact this
set_option maxHeartbeats 4000000 in
theorem l12Far_6f (n0 : Nat) (ts : List Tr) (g N sc : Nat) (jr ja jb : Nat) (cn : Int) (jo : Nat) (rv : Int) (rr rw_ rk : Bool) (tc uc : T8) (ta tcp : Nat) (tq us uq : Sl) (w : World) (hT : TaW n0 w ⟨some ⟨g, 0, none⟩, N, sc⟩ ts) (hn : n0 ≤ w.heap.size) (h8 : N ≤ 8) (hjr : jr < N) (hjo : jo < N) (ht : ts[jr]? = some (tc, ⟨some ⟨ta, 0, none⟩, 4, tcp⟩, tq)) (hu : ts[jo]? = some (uc, us, uq)) (hq3 : uq.n = 3) :
    Calls Tryz.prog 63 #[.slice (some ⟨g, 0, none⟩) N sc, .agg #[.int .i64 6, .int .i64 ((jr : Int) + 1), .int .i64 (ja : Int), .int .i64 (jb : Int), .int .i64 cn], .agg #[.int .i64 ((jo : Int) + 1), .int .i64 rv, .bool rr, .bool rw_, .bool rk]] w (DeedPost n0 w ⟨some ⟨g, 0, none⟩, N, sc⟩ ts (-4)) := by
  obtain ⟨qa, qn, qc⟩ := uq
  dsimp only at hq3
  subst hq3
  obtain ⟨Y0, hY0⟩ : ∃ Y0, (w.alloc (.cells (C5.cs ⟨6, (jr : Int) + 1, (ja : Int), (jb : Int), cn⟩) 25)).alloc (.cells (R5.cs ⟨(jo : Int) + 1, rv, rr, rw_, rk⟩) 34) = Y0 := ⟨_, rfl⟩
  have K0 := ((Kn.refl (w := w)).new 25 (C5.cs ⟨6, (jr : Int) + 1, (ja : Int), (jb : Int), cn⟩)).new 34 (R5.cs ⟨(jo : Int) + 1, rv, rr, rw_, rk⟩)
  rw [show (w.alloc (.cells (C5.cs ⟨6, (jr : Int) + 1, (ja : Int), (jb : Int), cn⟩) 25)).heap.size = w.heap.size + 1 by simp, hY0] at K0
  have t0 := hT.stay K0.1
  have hu0 := t0.at rfl hu
  have cu0 := hu0 0 _ rfl
  rw [Nat.add_zero] at cu0
  have cu1 := hu0 1 _ rfl
  have cu2 := hu0 2 _ rfl
  have cu3 := hu0 3 _ rfl
  have cu4 := hu0 4 _ rfl
  have cu5 := hu0 5 _ rfl
  have cu6 := hu0 6 _ rfl
  have cu7 := hu0 7 _ rfl
  have r0 := K0.c (b := w.heap.size + 1) (T := 34) (vs := R5.cs ⟨(jo : Int) + 1, rv, rr, rw_, rk⟩) (by simp) 0 _ rfl
  obtain ⟨Y1, hY1⟩ : ∃ Y1, Y0.alloc (.cells (T8.cs uc us ⟨qa, 3, qc⟩) 40) = Y1 := ⟨_, rfl⟩
  have K1 := K0.new 40 (T8.cs uc us ⟨qa, 3, qc⟩)
  rw [hY1] at K1
  have t1 := hT.stay K1.1
  have ht1 := t1.at rfl ht
  have ct0 := ht1 0 _ rfl
  rw [Nat.add_zero] at ct0
  have ct1 := ht1 1 _ rfl
  have ct2 := ht1 2 _ rfl
  have ct3 := ht1 3 _ rfl
  have ct4 := ht1 4 _ rfl
  have ct5 := ht1 5 _ rfl
  have ct6 := ht1 6 _ rfl
  have ct7 := ht1 7 _ rfl
  have q1 := K1.c (b := w.heap.size) (T := 25) (vs := C5.cs ⟨6, (jr : Int) + 1, (ja : Int), (jb : Int), cn⟩) (by simp) 1 _ rfl
  obtain ⟨Y2, hY2⟩ : ∃ Y2, Y1.alloc (.cells (T8.cs tc ⟨some ⟨ta, 0, none⟩, 4, tcp⟩ tq) 40) = Y2 := ⟨_, rfl⟩
  have K2 := K1.new 40 (T8.cs tc ⟨some ⟨ta, 0, none⟩, 4, tcp⟩ tq)
  rw [hY2] at K2
  have t2 := hT.stay K2.1
  have z0 : Y0.heap.size = w.heap.size + 2 := by rw [← hY0]; simp
  have z1 : Y1.heap.size = w.heap.size + 3 := by rw [← hY1]; simp [z0]
  have k0 := K2.c (b := w.heap.size) (T := 25) (vs := C5.cs ⟨6, (jr : Int) + 1, (ja : Int), (jb : Int), cn⟩) (by simp) 0 _ rfl
  have bO := K2.box (b := Y0.heap.size) (T := 40) (vs := T8.cs uc us ⟨qa, 3, qc⟩) (by simp)
  have bRun := K2.box (b := Y1.heap.size) (T := 40) (vs := T8.cs tc ⟨some ⟨ta, 0, none⟩, 4, tcp⟩ tq) (by simp)
  have bCl := K2.box (b := w.heap.size) (T := 25) (vs := C5.cs ⟨6, (jr : Int) + 1, (ja : Int), (jb : Int), cn⟩) (by simp)
  have bRt := K2.box (b := w.heap.size + 1) (T := 34) (vs := R5.cs ⟨(jo : Int) + 1, rv, rr, rw_, rk⟩) (by simp)
  have hjrI : (jr : Int) < (N : Int) := by omega
  have hjoI : (jo : Int) < (N : Int) := by omega
  have h0w : Below w.heap.size w Y2 := K2.1
  have o6 := bO.cell 6 _ rfl
  have hob : w.heap.size ≤ Y0.heap.size := by omega
  have hgb : g < w.heap.size := (hT.1.blk (b := g) (o := 0) rfl).2.2.1
  have T2 := Lib.hid t2
  have HW := Lib.hid h0w
  have BO := Lib.hid bO
  have BRT := Lib.hid bRt
  have BCL := Lib.hid bCl
  have HU := Lib.hid hu
  clear hT t0 t1 hu0 ht1 K0 K1 z0 z1 bO bRun bCl bRt t2 K2 h0w hu ht
  go_enter Tryz.func63, Tryz.ntmps63
  go_wp2
  go_ret
  exact dp_same T2.out HW.out hn
set_option maxHeartbeats 4000000 in
theorem l12Far_7n (n0 : Nat) (ts : List Tr) (g N sc : Nat) (jr ja jb : Nat) (cn : Int) (jo : Nat) (rv : Int) (rr rw_ rk : Bool) (tc uc : T8) (ta tcp : Nat) (tq us uq : Sl) (w : World) (hT : TaW n0 w ⟨some ⟨g, 0, none⟩, N, sc⟩ ts) (hn : n0 ≤ w.heap.size) (h8 : N ≤ 8) (hjr : jr < N) (hjo : jo < N) (ht : ts[jr]? = some (tc, ⟨some ⟨ta, 0, none⟩, 4, tcp⟩, tq)) (hu : ts[jo]? = some (uc, us, uq)) (hq3 : uq.n = 0) :
    Calls Tryz.prog 63 #[.slice (some ⟨g, 0, none⟩) N sc, .agg #[.int .i64 7, .int .i64 ((jr : Int) + 1), .int .i64 (ja : Int), .int .i64 (jb : Int), .int .i64 cn], .agg #[.int .i64 ((jo : Int) + 1), .int .i64 rv, .bool rr, .bool rw_, .bool rk]] w (DeedPost n0 w ⟨some ⟨g, 0, none⟩, N, sc⟩ ts (-4)) := by
  obtain ⟨qa, qn, qc⟩ := uq
  dsimp only at hq3
  subst hq3
  obtain ⟨Y0, hY0⟩ : ∃ Y0, (w.alloc (.cells (C5.cs ⟨7, (jr : Int) + 1, (ja : Int), (jb : Int), cn⟩) 25)).alloc (.cells (R5.cs ⟨(jo : Int) + 1, rv, rr, rw_, rk⟩) 34) = Y0 := ⟨_, rfl⟩
  have K0 := ((Kn.refl (w := w)).new 25 (C5.cs ⟨7, (jr : Int) + 1, (ja : Int), (jb : Int), cn⟩)).new 34 (R5.cs ⟨(jo : Int) + 1, rv, rr, rw_, rk⟩)
  rw [show (w.alloc (.cells (C5.cs ⟨7, (jr : Int) + 1, (ja : Int), (jb : Int), cn⟩) 25)).heap.size = w.heap.size + 1 by simp, hY0] at K0
  have t0 := hT.stay K0.1
  have hu0 := t0.at rfl hu
  have cu0 := hu0 0 _ rfl
  rw [Nat.add_zero] at cu0
  have cu1 := hu0 1 _ rfl
  have cu2 := hu0 2 _ rfl
  have cu3 := hu0 3 _ rfl
  have cu4 := hu0 4 _ rfl
  have cu5 := hu0 5 _ rfl
  have cu6 := hu0 6 _ rfl
  have cu7 := hu0 7 _ rfl
  have r0 := K0.c (b := w.heap.size + 1) (T := 34) (vs := R5.cs ⟨(jo : Int) + 1, rv, rr, rw_, rk⟩) (by simp) 0 _ rfl
  obtain ⟨Y1, hY1⟩ : ∃ Y1, Y0.alloc (.cells (T8.cs uc us ⟨qa, 0, qc⟩) 40) = Y1 := ⟨_, rfl⟩
  have K1 := K0.new 40 (T8.cs uc us ⟨qa, 0, qc⟩)
  rw [hY1] at K1
  have t1 := hT.stay K1.1
  have ht1 := t1.at rfl ht
  have ct0 := ht1 0 _ rfl
  rw [Nat.add_zero] at ct0
  have ct1 := ht1 1 _ rfl
  have ct2 := ht1 2 _ rfl
  have ct3 := ht1 3 _ rfl
  have ct4 := ht1 4 _ rfl
  have ct5 := ht1 5 _ rfl
  have ct6 := ht1 6 _ rfl
  have ct7 := ht1 7 _ rfl
  have q1 := K1.c (b := w.heap.size) (T := 25) (vs := C5.cs ⟨7, (jr : Int) + 1, (ja : Int), (jb : Int), cn⟩) (by simp) 1 _ rfl
  obtain ⟨Y2, hY2⟩ : ∃ Y2, Y1.alloc (.cells (T8.cs tc ⟨some ⟨ta, 0, none⟩, 4, tcp⟩ tq) 40) = Y2 := ⟨_, rfl⟩
  have K2 := K1.new 40 (T8.cs tc ⟨some ⟨ta, 0, none⟩, 4, tcp⟩ tq)
  rw [hY2] at K2
  have t2 := hT.stay K2.1
  have z0 : Y0.heap.size = w.heap.size + 2 := by rw [← hY0]; simp
  have z1 : Y1.heap.size = w.heap.size + 3 := by rw [← hY1]; simp [z0]
  have k0 := K2.c (b := w.heap.size) (T := 25) (vs := C5.cs ⟨7, (jr : Int) + 1, (ja : Int), (jb : Int), cn⟩) (by simp) 0 _ rfl
  have bO := K2.box (b := Y0.heap.size) (T := 40) (vs := T8.cs uc us ⟨qa, 0, qc⟩) (by simp)
  have bRun := K2.box (b := Y1.heap.size) (T := 40) (vs := T8.cs tc ⟨some ⟨ta, 0, none⟩, 4, tcp⟩ tq) (by simp)
  have bCl := K2.box (b := w.heap.size) (T := 25) (vs := C5.cs ⟨7, (jr : Int) + 1, (ja : Int), (jb : Int), cn⟩) (by simp)
  have bRt := K2.box (b := w.heap.size + 1) (T := 34) (vs := R5.cs ⟨(jo : Int) + 1, rv, rr, rw_, rk⟩) (by simp)
  have hjrI : (jr : Int) < (N : Int) := by omega
  have hjoI : (jo : Int) < (N : Int) := by omega
  have h0w : Below w.heap.size w Y2 := K2.1
  have o6 := bO.cell 6 _ rfl
  have hob : w.heap.size ≤ Y0.heap.size := by omega
  have hgb : g < w.heap.size := (hT.1.blk (b := g) (o := 0) rfl).2.2.1
  have T2 := Lib.hid t2
  have HW := Lib.hid h0w
  have BO := Lib.hid bO
  have BRT := Lib.hid bRt
  have BCL := Lib.hid bCl
  have HU := Lib.hid hu
  clear hT t0 t1 hu0 ht1 K0 K1 z0 z1 bO bRun bCl bRt t2 K2 h0w hu ht
  go_enter Tryz.func63, Tryz.ntmps63
  go_wp2
  go_ret
  exact dp_same T2.out HW.out hn
set_option maxHeartbeats 4000000 in
theorem l12Far_7 (n0 : Nat) (ts : List Tr) (g N sc : Nat) (jr ja jb : Nat) (cn : Int) (jo : Nat) (rv : Int) (rr rw_ rk : Bool) (tc uc : T8) (ta tcp : Nat) (tq us uq : Sl) (w : World) (hT : TaW n0 w ⟨some ⟨g, 0, none⟩, N, sc⟩ ts) (hn : n0 ≤ w.heap.size) (h8 : N ≤ 8) (hjr : jr < N) (hjo : jo < N) (ht : ts[jr]? = some (tc, ⟨some ⟨ta, 0, none⟩, 4, tcp⟩, tq)) (hu : ts[jo]? = some (uc, us, uq)) (qb qo qn qc : Nat) (qh : Int) (qt : List Int) (huq : uq = ⟨some ⟨qb, qo, none⟩, qn + 1, qc⟩) (hqq : uc.queue = qh :: qt) (hlq : qt.length ≤ 1000) (hc1 : ¬ qc = 1) (hc2 : 1 < qc) :
    Calls Tryz.prog 63 #[.slice (some ⟨g, 0, none⟩) N sc, .agg #[.int .i64 7, .int .i64 ((jr : Int) + 1), .int .i64 (ja : Int), .int .i64 (jb : Int), .int .i64 cn], .agg #[.int .i64 ((jo : Int) + 1), .int .i64 rv, .bool rr, .bool rw_, .bool rk]] w (fun e w' => ∃ q : Sl, DeedPost n0 w ⟨some ⟨g, 0, none⟩, N, sc⟩ (ts.set jo ({ uc with queue := qt }, us, q)) qh e w') := by
  subst huq
  obtain ⟨Y0, hY0⟩ : ∃ Y0, (w.alloc (.cells (C5.cs ⟨7, (jr : Int) + 1, (ja : Int), (jb : Int), cn⟩) 25)).alloc (.cells (R5.cs ⟨(jo : Int) + 1, rv, rr, rw_, rk⟩) 34) = Y0 := ⟨_, rfl⟩
  have K0 := ((Kn.refl (w := w)).new 25 (C5.cs ⟨7, (jr : Int) + 1, (ja : Int), (jb : Int), cn⟩)).new 34 (R5.cs ⟨(jo : Int) + 1, rv, rr, rw_, rk⟩)
  rw [show (w.alloc (.cells (C5.cs ⟨7, (jr : Int) + 1, (ja : Int), (jb : Int), cn⟩) 25)).heap.size = w.heap.size + 1 by simp, hY0] at K0
  have t0 := hT.stay K0.1
  have hu0 := t0.at rfl hu
  have cu0 := hu0 0 _ rfl
  rw [Nat.add_zero] at cu0
  have cu1 := hu0 1 _ rfl
  have cu2 := hu0 2 _ rfl
  have cu3 := hu0 3 _ rfl
  have cu4 := hu0 4 _ rfl
  have cu5 := hu0 5 _ rfl
  have cu6 := hu0 6 _ rfl
  have cu7 := hu0 7 _ rfl
  have r0 := K0.c (b := w.heap.size + 1) (T := 34) (vs := R5.cs ⟨(jo : Int) + 1, rv, rr, rw_, rk⟩) (by simp) 0 _ rfl
  obtain ⟨Y1, hY1⟩ : ∃ Y1, Y0.alloc (.cells (T8.cs uc us ⟨some ⟨qb, qo, none⟩, qn + 1, qc⟩) 40) = Y1 := ⟨_, rfl⟩
  have K1 := K0.new 40 (T8.cs uc us ⟨some ⟨qb, qo, none⟩, qn + 1, qc⟩)
  rw [hY1] at K1
  have t1 := hT.stay K1.1
  have ht1 := t1.at rfl ht
  have ct0 := ht1 0 _ rfl
  rw [Nat.add_zero] at ct0
  have ct1 := ht1 1 _ rfl
  have ct2 := ht1 2 _ rfl
  have ct3 := ht1 3 _ rfl
  have ct4 := ht1 4 _ rfl
  have ct5 := ht1 5 _ rfl
  have ct6 := ht1 6 _ rfl
  have ct7 := ht1 7 _ rfl
  have q1 := K1.c (b := w.heap.size) (T := 25) (vs := C5.cs ⟨7, (jr : Int) + 1, (ja : Int), (jb : Int), cn⟩) (by simp) 1 _ rfl
  obtain ⟨Y2, hY2⟩ : ∃ Y2, Y1.alloc (.cells (T8.cs tc ⟨some ⟨ta, 0, none⟩, 4, tcp⟩ tq) 40) = Y2 := ⟨_, rfl⟩
  have K2 := K1.new 40 (T8.cs tc ⟨some ⟨ta, 0, none⟩, 4, tcp⟩ tq)
  rw [hY2] at K2
  have t2 := hT.stay K2.1
  have z0 : Y0.heap.size = w.heap.size + 2 := by rw [← hY0]; simp
  have z1 : Y1.heap.size = w.heap.size + 3 := by rw [← hY1]; simp [z0]
  have k0 := K2.c (b := w.heap.size) (T := 25) (vs := C5.cs ⟨7, (jr : Int) + 1, (ja : Int), (jb : Int), cn⟩) (by simp) 0 _ rfl
  have bO := K2.box (b := Y0.heap.size) (T := 40) (vs := T8.cs uc us ⟨some ⟨qb, qo, none⟩, qn + 1, qc⟩) (by simp)
  have bRun := K2.box (b := Y1.heap.size) (T := 40) (vs := T8.cs tc ⟨some ⟨ta, 0, none⟩, 4, tcp⟩ tq) (by simp)
  have bCl := K2.box (b := w.heap.size) (T := 25) (vs := C5.cs ⟨7, (jr : Int) + 1, (ja : Int), (jb : Int), cn⟩) (by simp)
  have bRt := K2.box (b := w.heap.size + 1) (T := 34) (vs := R5.cs ⟨(jo : Int) + 1, rv, rr, rw_, rk⟩) (by simp)
  have hjrI : (jr : Int) < (N : Int) := by omega
  have hjoI : (jo : Int) < (N : Int) := by omega
  have h0w : Below w.heap.size w Y2 := K2.1
  have hQ := OwnQ.has (t2.get hu).2
  have o6 : Y2.cell? ⟨Y0.heap.size, 6, none⟩ = some (.slice (some ⟨qb, qo, none⟩) (qn + 1) qc) := bO.cell 6 _ rfl
  have hqn : qn = qt.length := by have := hQ.len; rw [hqq] at this; simpa using this
  have hqc : qn + 1 ≤ qc := hQ.2.1
  have hat0 : Y2.cell? ⟨qb, qo, none⟩ = some (.int .i64 qh) := by
    obtain ⟨b', o', e', hc⟩ := hQ.at (i := 0) (by rw [hqq]; simp)
    cases e'
    simpa [hqq] using hc
  have hob : w.heap.size ≤ Y0.heap.size := by omega
  have hgb : g < w.heap.size := (hT.1.blk (b := g) (o := 0) rfl).2.2.1
  have T2 := Lib.hid t2
  have HW := Lib.hid h0w
  have BO := Lib.hid bO
  have BRT := Lib.hid bRt
  have BCL := Lib.hid bCl
  have HU := Lib.hid hu
  obtain ⟨Ya, hYa⟩ : ∃ Ya, Y2.alloc (.cells #[] 3) = Ya := ⟨_, rfl⟩
  have ba : Below Y2.heap.size Y2 Ya := hYa ▸ (Below.refl _ _).alloc (Nat.le_refl _) _
  have hQ1 : HasQ Ya ⟨some ⟨qb, qo + 1, none⟩, qn, qc - 1⟩ qt := by
    refine ⟨by simpa using hqn, by dsimp only; omega, ?_⟩
    refine .inr ⟨qb, qo + 1, rfl, fun i x hx j v hv => ?_⟩
    have hi : i < qt.length := by have := (List.getElem?_eq_some_iff.1 hx).1; simpa using this
    obtain ⟨b', o', e', hc⟩ := (hQ.stay ba).at (i := i + 1) (by rw [hqq]; simpa using hi)
    cases e'
    simp only [List.getElem?_map, Option.map_eq_some_iff] at hx
    obtain ⟨n, hn', rfl⟩ := hx
    have hj : j = 0 := by have := (Array.getElem?_eq_some_iff.1 hv).1; simpa using this
    subst hj
    simp at hv
    subst hv
    have e1 : uc.queue[i + 1]'(by rw [hqq]; simpa using hi) = n := by
      have : (qh :: qt)[i + 1]? = some n := by simpa using hn'
      rw [← hqq] at this
      exact (List.getElem?_eq_some_iff.1 this).2
    rw [e1] at hc
    rw [show qo + 1 + i * 1 + 0 = qo + (i + 1) by omega]
    exact hc
  have oa : OwnF qC 1 3 Y2.heap.size Ya ⟨some ⟨Y2.heap.size, 0, none⟩, 0, 0⟩ [] := hYa ▸ OwnF.made qC 1 3 Y2
  obtain ⟨q5, W5, hr5, o5, b5', z5, k5⟩ := copyQ Y2.heap.size Ya ⟨some ⟨Y2.heap.size, 0, none⟩, 0, 0⟩ [] oa ba.size (by simp) _ qt hQ1 (by omega) 38
  have b5 : Below Y2.heap.size Y2 W5 := ba.trans b5'
  have oa6 := stayCell o6 ba
  have hpb := pipe_back (n0 := n0) (w := w) (a := qh) hn T2.out HW.out b5 (g := g) rfl HU.out (l := qt) (by have := (o5.row (Tp := TyQ) rfl).less (n0 := Y2.heap.size) (Nat.le_refl _); rwa [List.nil_append] at this) hob hgb (BO.out.stay b5)
  obtain ⟨V, hV⟩ : ∃ V, W5.setCell ⟨Y0.heap.size, 6, none⟩ (.slice q5.a q5.n q5.c) = V := ⟨_, rfl⟩
  rw [hV] at hpb
  have FIN := Lib.hid hpb.1
  have hbo := hpb.2.1
  have hbt := hpb.2.2.1
  have hbf := hpb.2.2.2
  have s6 := (BO.out.stay b5).cell 6 _ rfl
  have s6f := (BO.out.stay b5).thaw 6
  have m0 := ((BRT.out.stay b5).other (p := ⟨Y0.heap.size, 6, none⟩) (show w.heap.size + 1 ≠ Y0.heap.size by first | omega | (have := Z0.out; omega)) (.slice q5.a q5.n q5.c)).cell 0 _ rfl
  rw [hV] at m0
  have v0 := hbo.cell 0 _ rfl
  have v1 := hbo.cell 1 _ rfl
  have v2 := hbo.cell 2 _ rfl
  have v3 := hbo.cell 3 _ rfl
  have v4 := hbo.cell 4 _ rfl
  have v5 := hbo.cell 5 _ rfl
  have v6 := hbo.cell 6 _ rfl
  have v7 := hbo.cell 7 _ rfl
  have ww0 := hbt 0 _ rfl
  rw [Nat.add_zero] at ww0
  have ww1 := hbt 1 _ rfl
  have ww2 := hbt 2 _ rfl
  have ww3 := hbt 3 _ rfl
  have ww4 := hbt 4 _ rfl
  have ww5 := hbt 5 _ rfl
  have ww6 := hbt 6 _ rfl
  have ww7 := hbt 7 _ rfl
  have x0 := hbf (jo * 8)
  have x1 := hbf (jo * 8 + 1)
  have x2 := hbf (jo * 8 + 2)
  have x3 := hbf (jo * 8 + 3)
  have x4 := hbf (jo * 8 + 4)
  have x5 := hbf (jo * 8 + 5)
  have x6 := hbf (jo * 8 + 6)
  have x7 := hbf (jo * 8 + 7)
  clear hpb hbo hbt hbf
  have hqcI : (qn : Int) + 1 ≤ (qc : Int) := by omega
  clear hQ hQ1 oa ba b5 b5' o5 z5 k5 hqq hqn hlq
  clear hT t0 t1 hu0 ht1 K0 K1 z0 z1 bO bRun bCl bRt t2 K2 h0w hu ht
  go_enter Tryz.func63, Tryz.ntmps63
  go_wp2_with (refine wpList_append_run rfl (.tmp 94) (.tmp 97) 38 rfl (.slice (some ⟨Y2.heap.size, 0, none⟩) 0 0) (.slice (some ⟨qb, qo + 1, none⟩) qn (qc - 1)) rfl rfl (.slice q5.a q5.n q5.c) W5 hr5 ?_)
  go_ret
  exact ⟨q5, FIN.out⟩
set_option maxHeartbeats 4000000 in
theorem l12Far_7o (n0 : Nat) (ts : List Tr) (g N sc : Nat) (jr ja jb : Nat) (cn : Int) (jo : Nat) (rv : Int) (rr rw_ rk : Bool) (tc uc : T8) (ta tcp : Nat) (tq us uq : Sl) (w : World) (hT : TaW n0 w ⟨some ⟨g, 0, none⟩, N, sc⟩ ts) (hn : n0 ≤ w.heap.size) (h8 : N ≤ 8) (hjr : jr < N) (hjo : jo < N) (ht : ts[jr]? = some (tc, ⟨some ⟨ta, 0, none⟩, 4, tcp⟩, tq)) (hu : ts[jo]? = some (uc, us, uq)) (qb qo : Nat) (qh : Int) (huq : uq = ⟨some ⟨qb, qo, none⟩, 1, 1⟩) (hqq : uc.queue = [qh]) :
    Calls Tryz.prog 63 #[.slice (some ⟨g, 0, none⟩) N sc, .agg #[.int .i64 7, .int .i64 ((jr : Int) + 1), .int .i64 (ja : Int), .int .i64 (jb : Int), .int .i64 cn], .agg #[.int .i64 ((jo : Int) + 1), .int .i64 rv, .bool rr, .bool rw_, .bool rk]] w (fun e w' => ∃ q : Sl, DeedPost n0 w ⟨some ⟨g, 0, none⟩, N, sc⟩ (ts.set jo ({ uc with queue := [] }, us, q)) qh e w') := by
  subst huq
  obtain ⟨Y0, hY0⟩ : ∃ Y0, (w.alloc (.cells (C5.cs ⟨7, (jr : Int) + 1, (ja : Int), (jb : Int), cn⟩) 25)).alloc (.cells (R5.cs ⟨(jo : Int) + 1, rv, rr, rw_, rk⟩) 34) = Y0 := ⟨_, rfl⟩
  have K0 := ((Kn.refl (w := w)).new 25 (C5.cs ⟨7, (jr : Int) + 1, (ja : Int), (jb : Int), cn⟩)).new 34 (R5.cs ⟨(jo : Int) + 1, rv, rr, rw_, rk⟩)
  rw [show (w.alloc (.cells (C5.cs ⟨7, (jr : Int) + 1, (ja : Int), (jb : Int), cn⟩) 25)).heap.size = w.heap.size + 1 by simp, hY0] at K0
  have t0 := hT.stay K0.1
  have hu0 := t0.at rfl hu
  have cu0 := hu0 0 _ rfl
  rw [Nat.add_zero] at cu0
  have cu1 := hu0 1 _ rfl
  have cu2 := hu0 2 _ rfl
  have cu3 := hu0 3 _ rfl
  have cu4 := hu0 4 _ rfl
  have cu5 := hu0 5 _ rfl
  have cu6 := hu0 6 _ rfl
  have cu7 := hu0 7 _ rfl
  have r0 := K0.c (b := w.heap.size + 1) (T := 34) (vs := R5.cs ⟨(jo : Int) + 1, rv, rr, rw_, rk⟩) (by simp) 0 _ rfl
  obtain ⟨Y1, hY1⟩ : ∃ Y1, Y0.alloc (.cells (T8.cs uc us ⟨some ⟨qb, qo, none⟩, 1, 1⟩) 40) = Y1 := ⟨_, rfl⟩
  have K1 := K0.new 40 (T8.cs uc us ⟨some ⟨qb, qo, none⟩, 1, 1⟩)
  rw [hY1] at K1
  have t1 := hT.stay K1.1
  have ht1 := t1.at rfl ht
  have ct0 := ht1 0 _ rfl
  rw [Nat.add_zero] at ct0
  have ct1 := ht1 1 _ rfl
  have ct2 := ht1 2 _ rfl
  have ct3 := ht1 3 _ rfl
  have ct4 := ht1 4 _ rfl
  have ct5 := ht1 5 _ rfl
  have ct6 := ht1 6 _ rfl
  have ct7 := ht1 7 _ rfl
  have q1 := K1.c (b := w.heap.size) (T := 25) (vs := C5.cs ⟨7, (jr : Int) + 1, (ja : Int), (jb : Int), cn⟩) (by simp) 1 _ rfl
  obtain ⟨Y2, hY2⟩ : ∃ Y2, Y1.alloc (.cells (T8.cs tc ⟨some ⟨ta, 0, none⟩, 4, tcp⟩ tq) 40) = Y2 := ⟨_, rfl⟩
  have K2 := K1.new 40 (T8.cs tc ⟨some ⟨ta, 0, none⟩, 4, tcp⟩ tq)
  rw [hY2] at K2
  have t2 := hT.stay K2.1
  have z0 : Y0.heap.size = w.heap.size + 2 := by rw [← hY0]; simp
  have z1 : Y1.heap.size = w.heap.size + 3 := by rw [← hY1]; simp [z0]
  have k0 := K2.c (b := w.heap.size) (T := 25) (vs := C5.cs ⟨7, (jr : Int) + 1, (ja : Int), (jb : Int), cn⟩) (by simp) 0 _ rfl
  have bO := K2.box (b := Y0.heap.size) (T := 40) (vs := T8.cs uc us ⟨some ⟨qb, qo, none⟩, 1, 1⟩) (by simp)
  have bRun := K2.box (b := Y1.heap.size) (T := 40) (vs := T8.cs tc ⟨some ⟨ta, 0, none⟩, 4, tcp⟩ tq) (by simp)
  have bCl := K2.box (b := w.heap.size) (T := 25) (vs := C5.cs ⟨7, (jr : Int) + 1, (ja : Int), (jb : Int), cn⟩) (by simp)
  have bRt := K2.box (b := w.heap.size + 1) (T := 34) (vs := R5.cs ⟨(jo : Int) + 1, rv, rr, rw_, rk⟩) (by simp)
  have hjrI : (jr : Int) < (N : Int) := by omega
  have hjoI : (jo : Int) < (N : Int) := by omega
  have h0w : Below w.heap.size w Y2 := K2.1
  have hQ := OwnQ.has (t2.get hu).2
  have o6 : Y2.cell? ⟨Y0.heap.size, 6, none⟩ = some (.slice (some ⟨qb, qo, none⟩) 1 1) := bO.cell 6 _ rfl
  have hat0 : Y2.cell? ⟨qb, qo, none⟩ = some (.int .i64 qh) := by
    obtain ⟨b', o', e', hc⟩ := hQ.at (i := 0) (by rw [hqq]; simp)
    cases e'
    simpa [hqq] using hc
  have hob : w.heap.size ≤ Y0.heap.size := by omega
  have hgb : g < w.heap.size := (hT.1.blk (b := g) (o := 0) rfl).2.2.1
  have T2 := Lib.hid t2
  have HW := Lib.hid h0w
  have BO := Lib.hid bO
  have BRT := Lib.hid bRt
  have BCL := Lib.hid bCl
  have HU := Lib.hid hu
  obtain ⟨Ya, hYa⟩ : ∃ Ya, Y2.alloc (.cells #[] 3) = Ya := ⟨_, rfl⟩
  have ba : Below Y2.heap.size Y2 Ya := hYa ▸ (Below.refl _ _).alloc (Nat.le_refl _) _
  have oa6 := stayCell o6 ba
  obtain ⟨qe, hqe⟩ : ∃ qe : Sl, (⟨some ⟨Y2.heap.size, 0, none⟩, 0, 0⟩ : Sl) = qe := ⟨_, rfl⟩
  have hpb := pipe_back (n0 := n0) (w := w) (a := qh) hn T2.out HW.out ba (g := g) rfl HU.out (l := []) (show OwnQ Y2.heap.size Ya qe [] from hqe ▸ (⟨rfl, Nat.le_refl _, .inl rfl⟩ : OwnQ Y2.heap.size Ya ⟨some ⟨Y2.heap.size, 0, none⟩, 0, 0⟩ [])) hob hgb (BO.out.stay ba)
  obtain ⟨V, hV⟩ : ∃ V, Ya.setCell ⟨Y0.heap.size, 6, none⟩ (.slice qe.a qe.n qe.c) = V := ⟨_, rfl⟩
  rw [hV] at hpb
  have FIN := Lib.hid hpb.1
  have hbo := hpb.2.1
  have hbt := hpb.2.2.1
  have hbf := hpb.2.2.2
  have s6 := (BO.out.stay ba).cell 6 _ rfl
  have s6f := (BO.out.stay ba).thaw 6
  have m0 := ((BRT.out.stay ba).other (p := ⟨Y0.heap.size, 6, none⟩) (show w.heap.size + 1 ≠ Y0.heap.size by first | omega | (have := Z0.out; omega)) (.slice qe.a qe.n qe.c)).cell 0 _ rfl
  rw [hV] at m0
  have v0 := hbo.cell 0 _ rfl
  have v1 := hbo.cell 1 _ rfl
  have v2 := hbo.cell 2 _ rfl
  have v3 := hbo.cell 3 _ rfl
  have v4 := hbo.cell 4 _ rfl
  have v5 := hbo.cell 5 _ rfl
  have v6 := hbo.cell 6 _ rfl
  have v7 := hbo.cell 7 _ rfl
  have ww0 := hbt 0 _ rfl
  rw [Nat.add_zero] at ww0
  have ww1 := hbt 1 _ rfl
  have ww2 := hbt 2 _ rfl
  have ww3 := hbt 3 _ rfl
  have ww4 := hbt 4 _ rfl
  have ww5 := hbt 5 _ rfl
  have ww6 := hbt 6 _ rfl
  have ww7 := hbt 7 _ rfl
  have x0 := hbf (jo * 8)
  have x1 := hbf (jo * 8 + 1)
  have x2 := hbf (jo * 8 + 2)
  have x3 := hbf (jo * 8 + 3)
  have x4 := hbf (jo * 8 + 4)
  have x5 := hbf (jo * 8 + 5)
  have x6 := hbf (jo * 8 + 6)
  have x7 := hbf (jo * 8 + 7)
  clear hpb hbo hbt hbf
  subst hqe
  clear hQ ba hqq
  clear hT t0 t1 hu0 ht1 K0 K1 z0 z1 bO bRun bCl bRt t2 K2 h0w hu ht
  go_enter Tryz.func63, Tryz.ntmps63
  go_wp2
  go_ret
  exact ⟨_, FIN.out⟩
end Go.Proofs.YtbopficnajdaoaaGreatDoor

namespace Go.Proofs.YtbopficnajdaoaaGreatDoor
open Go.RowKit
set_option maxRecDepth 100000
set_option linter.unusedVariables false

theorem copy_row2 {α : Type} (f : α → Array Value) (T TS : TypeId) (size bytes : Nat) (z : Value) (hinfo : (Tryz.prog.info? T).map (fun i => (i.zero, i.size, i.bytes)) = some (some z, size, bytes)) (hu : Tryz.prog.underlying TS = some (.slice T)) (hzs : z.cells.size = size) (hsz : 0 < size) (hby : bytes ≤ 1000)
    (hf : ∀ x, (f x).size = size) (h1 : ∀ x, ∀ u ∈ (f x).toList, u.oneCell' = true) (B : Nat) (W : World) (v : Sl) (olds : List α) (hv : OwnF f size T B W v olds) (hB : B ≤ W.heap.size) (ho : olds.length ≤ 1048576) (s : Sl) (l : List α) (h : Els W s size (l.map f)) (hl : l.length ≤ 1048576) (ty : TypeId) :
    ∃ (s' : Sl) (W' : World), (Builtin.append_ #[TS, TS] ty #[.slice v.a v.n v.c, .slice s.a s.n s.c]).run Tryz.prog W = .ok (.slice s'.a s'.n s'.c) W' ∧ OwnF f size T B W' s' (olds ++ l) ∧ Below B W W' ∧ W.heap.size ≤ W'.heap.size ∧ ∀ b T' cs, v.a ≠ some ⟨b, 0, none⟩ → Box W b T' cs → Box W' b T' cs := by
  obtain ⟨i0, hi, hz0, hz1, hz2⟩ : ∃ i, Tryz.prog.info? T = some i ∧ i.zero = some z ∧ i.size = size ∧ i.bytes = bytes := by
    cases hq : Tryz.prog.info? T with
    | none => simp [hq] at hinfo
    | some i => simp [hq] at hinfo; exact ⟨i, rfl, hinfo⟩
  have hsn : s.n = l.length := by rw [h.1]; simp
  have hlen : (flat f l).length = s.n * size := by rw [flat_len hf, hsn]
  have hvn : v.n ≤ v.c := by
    rcases hv.2.2 with ⟨e, h0⟩ | ⟨g, cap, cur, e, hb, hg, h1, h2, h3, h4⟩
    · have := hv.1; omega
    · simp only [Value.slice.injEq] at e; have := hv.1; omega
  cases hsa : s.a with
  | none =>
    have hl0 : l = [] := by
      rcases h.2.2 with h0 | ⟨b, o, e, -⟩
      · simpa using h0
      · rw [hsa] at e; cases e
    subst hl0
    have hn0 : s.n = 0 := by simpa using hsn
    rw [hn0, List.append_nil]
    exact ⟨v, W, run_append_nothing (P := Tryz.prog) W TS TS ty T i0 hu hi v.a v.n v.c hvn _ (Src.ofNil W hu s.c), hv, Below.refl _ _, Nat.le_refl _, fun b T' cs _ bx => bx⟩
  | some a =>
    have hnews : ∀ j u, (flat f l)[j]? = some u → W.cell? (a.add j) = some u := by
      intro j u hj
      have hj' : j < l.length * size := by have := (List.getElem?_eq_some_iff.1 hj).1; rwa [flat_len hf] at this
      have hne : l ≠ [] := fun e => by subst e; simp at hj'
      rcases h.2.2 with h0 | ⟨b, o, e, hat⟩
      · exact absurd (by simpa using h0) hne
      rw [hsa] at e
      cases e
      have hi' : j / size < l.length := Nat.div_lt_of_lt_mul (by rw [Nat.mul_comm]; exact hj')
      have hm := Nat.mod_lt j hsz
      have hd : j / size * size + j % size = j := by rw [Nat.mul_comm]; exact Nat.div_add_mod j size
      have hg := flat_get hf l (j / size) (j % size) _ (List.getElem?_eq_getElem hi') hm
      rw [hd, hj] at hg
      have := hat (j / size) (f l[j / size]) (by simp [List.getElem?_eq_getElem hi']) (j % size) u hg.symm
      rw [addr_add, ← hd, ← Nat.add_assoc]
      exact this
    obtain ⟨v', w', hr, h2, h3, -⟩ := run_append_own (P := Tryz.prog) W B TS ty T i0 z size bytes hu hi hz0 hz1 hz2 hzs hsz
      (.slice v.a v.n v.c) olds.length (flat f olds) hv.2 a s.n s.c (flat f l) hlen hnews
      (fun u hu => by
        simp only [flat, List.mem_flatMap] at hu
        obtain ⟨x, -, hx⟩ := hu
        exact h1 x u hx) (by simp only [maxLen]; omega) (by
          have : (olds.length + s.n) * bytes ≤ 2097152 * 1000 := Nat.mul_le_mul (by omega) hby
          omega) hB
    obtain ⟨s', rfl, hs'⟩ := ownsRow_sl h2
    have hob : ∀ b, b < B → some b ≠ (Value.slice v.a v.n v.c).ownBlock := by
      intro b hb e
      rcases hv.2.2 with ⟨e1, -⟩ | ⟨g1, c1, cur, e1, hb1, -⟩
      · rw [e1] at e; cases e
      · rw [e1] at e; simp [Value.ownBlock] at e; omega
    have hty : ∀ b T' cs, v.a ≠ some ⟨b, 0, none⟩ → Box W b T' cs → some b ≠ (Value.slice v.a v.n v.c).ownBlock := by
      intro b T' cs hT hb e
      rcases hv.2.2 with ⟨e1, -⟩ | ⟨g1, c1, cur, e1, hb1, hg1, -⟩
      · rw [e1] at e; cases e
      · have e1' := e1
        simp only [Value.slice.injEq] at e1'
        rw [e1] at e
        simp [Value.ownBlock] at e
        subst e
        exact hT e1'.1
    refine ⟨s', w', by rw [← hsa] at hr; simpa [hsa] using hr, ⟨by rw [hs', List.length_append, hsn], ?_⟩, ?_, h3.size, fun b T' cs hT hb => (h3.block b hb.lt (hty b T' cs hT hb)).trans hb⟩
    · rw [List.length_append, flat_app, ← hsn]
      exact h2
    · exact ⟨h3.os, h3.tape, h3.output, h3.size, fun k hk => h3.block k (by omega) (hob k hk)⟩
theorem copyQ2 (B : Nat) (W : World) (v : Sl) (olds : List Int) (hv : OwnF qC 1 3 B W v olds) (hB : B ≤ W.heap.size) (ho : olds.length ≤ 1048576) (s : Sl) (l : List Int) (h : HasQ W s l) (hl : l.length ≤ 1048576) (ty : TypeId) :
    ∃ (s' : Sl) (W' : World), (Builtin.append_ #[38, 38] ty #[.slice v.a v.n v.c, .slice s.a s.n s.c]).run Tryz.prog W = .ok (.slice s'.a s'.n s'.c) W' ∧ OwnF qC 1 3 B W' s' (olds ++ l) ∧ Below B W W' ∧ W.heap.size ≤ W'.heap.size ∧ ∀ b T' cs, v.a ≠ some ⟨b, 0, none⟩ → Box W b T' cs → Box W' b T' cs :=
  copy_row2 qC _ _ 1 8 _ infoI Tryz.underlying38 rfl (by decide) (by decide) szQ oneQ B W v olds hv hB ho s l h hl ty
set_option maxHeartbeats 4000000 in
theorem l12Far_6 (n0 : Nat) (ts : List Tr) (g N sc : Nat) (jr ja jb : Nat) (cn : Int) (jo : Nat) (rv : Int) (rr rw_ rk : Bool) (tc uc : T8) (ta tcp : Nat) (tq us uq : Sl) (w : World) (hT : TaW n0 w ⟨some ⟨g, 0, none⟩, N, sc⟩ ts) (hn : n0 ≤ w.heap.size) (h8 : N ≤ 8) (hjr : jr < N) (hjo : jo < N) (ht : ts[jr]? = some (tc, ⟨some ⟨ta, 0, none⟩, 4, tcp⟩, tq)) (hu : ts[jo]? = some (uc, us, uq)) (hlq : uc.queue.length < 3) :
    Calls Tryz.prog 63 #[.slice (some ⟨g, 0, none⟩) N sc, .agg #[.int .i64 6, .int .i64 ((jr : Int) + 1), .int .i64 (ja : Int), .int .i64 (jb : Int), .int .i64 cn], .agg #[.int .i64 ((jo : Int) + 1), .int .i64 rv, .bool rr, .bool rw_, .bool rk]] w (fun e w' => ∃ q : Sl, DeedPost n0 w ⟨some ⟨g, 0, none⟩, N, sc⟩ (ts.set jo ({ uc with queue := uc.queue ++ [cn] }, us, q)) 0 e w') := by
  obtain ⟨Y0, hY0⟩ : ∃ Y0, (w.alloc (.cells (C5.cs ⟨6, (jr : Int) + 1, (ja : Int), (jb : Int), cn⟩) 25)).alloc (.cells (R5.cs ⟨(jo : Int) + 1, rv, rr, rw_, rk⟩) 34) = Y0 := ⟨_, rfl⟩
  have K0 := ((Kn.refl (w := w)).new 25 (C5.cs ⟨6, (jr : Int) + 1, (ja : Int), (jb : Int), cn⟩)).new 34 (R5.cs ⟨(jo : Int) + 1, rv, rr, rw_, rk⟩)
  rw [show (w.alloc (.cells (C5.cs ⟨6, (jr : Int) + 1, (ja : Int), (jb : Int), cn⟩) 25)).heap.size = w.heap.size + 1 by simp, hY0] at K0
  have t0 := hT.stay K0.1
  have hu0 := t0.at rfl hu
  have cu0 := hu0 0 _ rfl
  rw [Nat.add_zero] at cu0
  have cu1 := hu0 1 _ rfl
  have cu2 := hu0 2 _ rfl
  have cu3 := hu0 3 _ rfl
  have cu4 := hu0 4 _ rfl
  have cu5 := hu0 5 _ rfl
  have cu6 := hu0 6 _ rfl
  have cu7 := hu0 7 _ rfl
  have r0 := K0.c (b := w.heap.size + 1) (T := 34) (vs := R5.cs ⟨(jo : Int) + 1, rv, rr, rw_, rk⟩) (by simp) 0 _ rfl
  obtain ⟨Y1, hY1⟩ : ∃ Y1, Y0.alloc (.cells (T8.cs uc us uq) 40) = Y1 := ⟨_, rfl⟩
  have K1 := K0.new 40 (T8.cs uc us uq)
  rw [hY1] at K1
  have t1 := hT.stay K1.1
  have ht1 := t1.at rfl ht
  have ct0 := ht1 0 _ rfl
  rw [Nat.add_zero] at ct0
  have ct1 := ht1 1 _ rfl
  have ct2 := ht1 2 _ rfl
  have ct3 := ht1 3 _ rfl
  have ct4 := ht1 4 _ rfl
  have ct5 := ht1 5 _ rfl
  have ct6 := ht1 6 _ rfl
  have ct7 := ht1 7 _ rfl
  have q1 := K1.c (b := w.heap.size) (T := 25) (vs := C5.cs ⟨6, (jr : Int) + 1, (ja : Int), (jb : Int), cn⟩) (by simp) 1 _ rfl
  obtain ⟨Y2, hY2⟩ : ∃ Y2, Y1.alloc (.cells (T8.cs tc ⟨some ⟨ta, 0, none⟩, 4, tcp⟩ tq) 40) = Y2 := ⟨_, rfl⟩
  have K2 := K1.new 40 (T8.cs tc ⟨some ⟨ta, 0, none⟩, 4, tcp⟩ tq)
  rw [hY2] at K2
  have t2 := hT.stay K2.1
  have z0 : Y0.heap.size = w.heap.size + 2 := by rw [← hY0]; simp
  have z1 : Y1.heap.size = w.heap.size + 3 := by rw [← hY1]; simp [z0]
  have k0 := K2.c (b := w.heap.size) (T := 25) (vs := C5.cs ⟨6, (jr : Int) + 1, (ja : Int), (jb : Int), cn⟩) (by simp) 0 _ rfl
  have bO := K2.box (b := Y0.heap.size) (T := 40) (vs := T8.cs uc us uq) (by simp)
  have bRun := K2.box (b := Y1.heap.size) (T := 40) (vs := T8.cs tc ⟨some ⟨ta, 0, none⟩, 4, tcp⟩ tq) (by simp)
  have bCl := K2.box (b := w.heap.size) (T := 25) (vs := C5.cs ⟨6, (jr : Int) + 1, (ja : Int), (jb : Int), cn⟩) (by simp)
  have bRt := K2.box (b := w.heap.size + 1) (T := 34) (vs := R5.cs ⟨(jo : Int) + 1, rv, rr, rw_, rk⟩) (by simp)
  have hjrI : (jr : Int) < (N : Int) := by omega
  have hjoI : (jo : Int) < (N : Int) := by omega
  have h0w : Below w.heap.size w Y2 := K2.1
  have hQ2 := OwnQ.has (t2.get hu).2
  have hqn : (uq.n : Int) < 3 := by have h1 : uq.n = uc.queue.length := hQ2.len; omega
  have oo6 := bO.cell 6 _ rfl
  have hob : w.heap.size ≤ Y0.heap.size := by omega
  have hgb : g < w.heap.size := (hT.1.blk (b := g) (o := 0) rfl).2.2.1
  have T2 := Lib.hid t2
  have HW := Lib.hid h0w
  have BO := Lib.hid bO
  have BRT := Lib.hid bRt
  have BCL := Lib.hid bCl
  have HU := Lib.hid hu
  obtain ⟨U, hU⟩ : ∃ U, Y2.drew = U := ⟨_, rfl⟩
  have bU : Below Y2.heap.size Y2 U := hU ▸ (Below.refl _ _).drew
  have zU : U.heap.size = Y2.heap.size := by rw [← hU]; rfl
  have hQ : HasQ U uq uc.queue := hQ2.stay bU
  have o6 : U.cell? ⟨Y0.heap.size, 6, none⟩ = some (.slice uq.a uq.n uq.c) := (bO.stay bU).cell 6 _ rfl
  have k4 : U.cell? ⟨w.heap.size, 4, none⟩ = some (.int .i64 cn) := (bCl.stay bU).cell 4 _ rfl
  obtain ⟨Ua, hUa⟩ : ∃ Ua, U.alloc (.cells #[] 3) = Ua := ⟨_, rfl⟩
  have ba1 : Below U.heap.size U Ua := hUa ▸ (Below.refl _ _).alloc (Nat.le_refl _) _
  have oa1 : OwnF qC 1 3 U.heap.size Ua ⟨some ⟨U.heap.size, 0, none⟩, 0, 0⟩ [] := hUa ▸ OwnF.made qC 1 3 U
  obtain ⟨qa1, Wa1, hra1, owa1, bea1, za1, ka1⟩ := copyQ U.heap.size Ua ⟨some ⟨U.heap.size, 0, none⟩, 0, 0⟩ [] oa1 ba1.size (by simp) uq uc.queue (hQ.stay ba1) (by omega) 38
  have ba2 : Below U.heap.size U Wa1 := ba1.trans bea1
  obtain ⟨Wa2, hWa2⟩ : ∃ Wa2, Wa1.alloc (.cells (qC cn) 3) = Wa2 := ⟨_, rfl⟩
  have bxa : Box Wa2 Wa1.heap.size 3 (qC cn) := hWa2 ▸ Box.fresh _ _ _
  have ba3 : Below U.heap.size U Wa2 := hWa2 ▸ ba2.alloc ba2.size _
  have owa2 : OwnF qC 1 3 U.heap.size Wa2 qa1 uc.queue := by rw [List.nil_append] at owa1; exact hWa2 ▸ owa1.keep (fun b cs _ _ kx => kx.past _)
  obtain ⟨qa2, Wa4, hra2, owa4, bea4, za4, ka4⟩ := copyQ U.heap.size Wa2 qa1 uc.queue owa2 ba3.size (by omega) ⟨some ⟨Wa1.heap.size, 0, none⟩, 1, 1⟩ [cn] (hasQ_one bxa) (by simp) 38
  have ba5 : Below U.heap.size U Wa4 := ba3.trans bea4
  have fa6 := stayCell o6 ba1
  have ga4 := stayCell k4 ba1
  have ia4 := stayCell k4 ba2
  obtain ⟨Ub, hUb⟩ : ∃ Ub, Ua.alloc (.cells (qC cn) 3) = Ub := ⟨_, rfl⟩
  have bb1 : Below U.heap.size U Ub := hUb ▸ ba1.alloc ba1.size _
  have bxb : Box Ub Ua.heap.size 3 (qC cn) := hUb ▸ Box.fresh _ _ _
  have ob1 : OwnF qC 1 3 U.heap.size Ub ⟨some ⟨U.heap.size, 0, none⟩, 0, 0⟩ [] := hUb ▸ oa1.keep (fun b cs _ _ kx => kx.past _)
  obtain ⟨qb1, Wb1, hrb1, owb1, beb1, zb1, kb1⟩ := copyQ2 U.heap.size Ub ⟨some ⟨U.heap.size, 0, none⟩, 0, 0⟩ [] ob1 bb1.size (by simp) uq uc.queue (hQ.stay bb1) (by omega) 38
  have bb2 : Below U.heap.size U Wb1 := bb1.trans beb1
  have hsb : HasQ Wb1 ⟨some ⟨Ua.heap.size, 0, none⟩, 1, 1⟩ [cn] := hasQ_one (kb1 _ _ _ (fun e => by (have := congrArg (fun x => x.map Addr.block) e; simp at this; have h2 := oa1.blk (b := U.heap.size) (o := 0) rfl; omega)) bxb)
  rw [List.nil_append] at owb1
  obtain ⟨qb2, Wb4, hrb2, owb4, beb4, zb4, kb4⟩ := copyQ U.heap.size Wb1 qb1 uc.queue owb1 bb2.size (by omega) ⟨some ⟨Ua.heap.size, 0, none⟩, 1, 1⟩ [cn] hsb (by simp) 38
  have bb5 : Below U.heap.size U Wb4 := bb2.trans beb4
  have fb6 := stayCell o6 bb1
  obtain ⟨Uc, hUc⟩ : ∃ Uc, U.alloc (.cells (qC cn) 3) = Uc := ⟨_, rfl⟩
  have bc0 : Below U.heap.size U Uc := hUc ▸ (Below.refl _ _).alloc (Nat.le_refl _) _
  have bxc : Box Uc U.heap.size 3 (qC cn) := hUc ▸ Box.fresh _ _ _
  obtain ⟨Ud, hUd⟩ : ∃ Ud, Uc.alloc (.cells #[] 3) = Ud := ⟨_, rfl⟩
  have bc1 : Below U.heap.size U Ud := hUd ▸ bc0.alloc bc0.size _
  have oc1 : OwnF qC 1 3 Uc.heap.size Ud ⟨some ⟨Uc.heap.size, 0, none⟩, 0, 0⟩ [] := hUd ▸ OwnF.made qC 1 3 Uc
  have bxd : Box Ud U.heap.size 3 (qC cn) := hUd ▸ bxc.past _
  have zUc : U.heap.size < Uc.heap.size := bxc.lt
  obtain ⟨qc1, Wc1, hrc1, owc1, bec1, zc1, kc1⟩ := copyQ Uc.heap.size Ud ⟨some ⟨Uc.heap.size, 0, none⟩, 0, 0⟩ [] oc1 (by rw [← hUd]; simp) (by simp) uq uc.queue (hQ.stay bc1) (by omega) 38
  have bc2 : Below U.heap.size U Wc1 := bc1.trans (bec1.mono (by omega))
  have hsc : HasQ Wc1 ⟨some ⟨U.heap.size, 0, none⟩, 1, 1⟩ [cn] := hasQ_one (bxd.keep bec1 zUc)
  rw [List.nil_append] at owc1
  obtain ⟨qc2, Wc4, hrc2, owc4, bec4, zc4, kc4⟩ := copyQ Uc.heap.size Wc1 qc1 uc.queue owc1 (by have := bec1.size; rw [← hUd] at this; simp at this; omega) (by omega) ⟨some ⟨U.heap.size, 0, none⟩, 1, 1⟩ [cn] hsc (by simp) 38
  have bc5 : Below U.heap.size U Wc4 := bc2.trans (bec4.mono (by omega))
  have fc6 := stayCell o6 bc0
  have fd6 := stayCell o6 bc1
  have da5 : Below Y2.heap.size Y2 Wa4 := bU.trans (ba5.mono (by omega))
  have db5 : Below Y2.heap.size Y2 Wb4 := bU.trans (bb5.mono (by omega))
  have dc5 : Below Y2.heap.size Y2 Wc4 := bU.trans (bc5.mono (by omega))
  have OA := Lib.hid (((owa4).row (Tp := TyQ) rfl).less (n0 := Y2.heap.size) (by omega))
  have OB := Lib.hid (((owb4).row (Tp := TyQ) rfl).less (n0 := Y2.heap.size) (by omega))
  have OC := Lib.hid (((owc4).row (Tp := TyQ) rfl).less (n0 := Y2.heap.size) (by omega))
  have DA := Lib.hid da5
  have DB := Lib.hid db5
  have DC := Lib.hid dc5
  have Z0 := Lib.hid z0
  clear da5 db5 dc5 owa4 owb4 owc4 ba1 ba2 ba3 ba5 bb1 bb2 bb5 bc0 bc1 bc2 bc5 oa1 ob1 oc1 bea1 bea4 beb1 beb4 bec1 bec4 owa1 owa2 owb1 owc1 hsb hsc bxa bxb bxc bxd ka1 ka4 kb1 kb4 kc1 kc4 za1 za4 zb1 zb4 zc1 zc4 hQ hQ2 bU zU zUc
  clear hT t0 t1 hu0 ht1 K0 K1 z0 z1 bO bRun bCl bRt t2 K2 h0w hu ht
  have hlq' := Lib.hid hlq
  clear hlq
  go_enter Tryz.func63, Tryz.ntmps63
  go_wp2_with fail
  go_region_law (first
    | refine step_append_run rfl (.tmp 75) (.tmp 77) 38 rfl (.slice (some ⟨U.heap.size, 0, none⟩) 0 0) (.slice uq.a uq.n uq.c) (by simp [Act.eval]) (by simp [Act.eval]) (.slice qa1.a qa1.n qa1.c) Wa1 hra1 ?_
    | refine step_append_run rfl (.tmp 75) (.tmp 77) 38 rfl (.slice (some ⟨U.heap.size, 0, none⟩) 0 0) (.slice uq.a uq.n uq.c) (by simp [Act.eval]) (by simp [Act.eval]) (.slice qb1.a qb1.n qb1.c) Wb1 hrb1 ?_
    | refine step_append_run rfl (.tmp 75) (.tmp 77) 38 rfl (.slice (some ⟨Uc.heap.size, 0, none⟩) 0 0) (.slice uq.a uq.n uq.c) (by simp [Act.eval]) (by simp [Act.eval]) (.slice qc1.a qc1.n qc1.c) Wc1 hrc1 ?_
    | (refine step_append_run rfl (.tmp 78) (.tmp 81) 38 rfl (.slice qa1.a qa1.n qa1.c) (.slice (some ⟨Wa1.heap.size, 0, none⟩) 1 1) (by simp [Act.eval]) (by simp [Act.eval]) (.slice qa2.a qa2.n qa2.c) Wa4 hra2 ?_; have hpb := pipe_back (n0 := n0) (w := w) (a := 0) hn T2.out HW.out DA.out (g := g) rfl HU.out (l := uc.queue ++ [cn]) OA.out hob hgb (BO.out.stay DA.out); obtain ⟨V, hV⟩ : ∃ V, Wa4.setCell ⟨Y0.heap.size, 6, none⟩ (.slice qa2.a qa2.n qa2.c) = V := ⟨_, rfl⟩; rw [hV] at hpb; have FIN := Lib.hid hpb.1; have hbo := hpb.2.1; have hbt := hpb.2.2.1; have hbf := hpb.2.2.2; have s6 := (BO.out.stay DA.out).cell 6 _ rfl; have s6f := (BO.out.stay DA.out).thaw 6; have m0 := ((BRT.out.stay DA.out).other (p := ⟨Y0.heap.size, 6, none⟩) (show w.heap.size + 1 ≠ Y0.heap.size by first | omega | (have := Z0.out; omega)) (.slice qa2.a qa2.n qa2.c)).cell 0 _ rfl; rw [hV] at m0; have v0 := hbo.cell 0 _ rfl; have v1 := hbo.cell 1 _ rfl; have v2 := hbo.cell 2 _ rfl; have v3 := hbo.cell 3 _ rfl; have v4 := hbo.cell 4 _ rfl; have v5 := hbo.cell 5 _ rfl; have v6 := hbo.cell 6 _ rfl; have v7 := hbo.cell 7 _ rfl; have ww0 := hbt 0 _ rfl; rw [Nat.add_zero] at ww0; have ww1 := hbt 1 _ rfl; have ww2 := hbt 2 _ rfl; have ww3 := hbt 3 _ rfl; have ww4 := hbt 4 _ rfl; have ww5 := hbt 5 _ rfl; have ww6 := hbt 6 _ rfl; have ww7 := hbt 7 _ rfl; have x0 := hbf (jo * 8); have x1 := hbf (jo * 8 + 1); have x2 := hbf (jo * 8 + 2); have x3 := hbf (jo * 8 + 3); have x4 := hbf (jo * 8 + 4); have x5 := hbf (jo * 8 + 5); have x6 := hbf (jo * 8 + 6); have x7 := hbf (jo * 8 + 7); clear hpb hbo hbt hbf)
    | (refine step_append_run rfl (.tmp 78) (.tmp 81) 38 rfl (.slice qb1.a qb1.n qb1.c) (.slice (some ⟨Ua.heap.size, 0, none⟩) 1 1) (by simp [Act.eval]) (by simp [Act.eval]) (.slice qb2.a qb2.n qb2.c) Wb4 hrb2 ?_; have hpb := pipe_back (n0 := n0) (w := w) (a := 0) hn T2.out HW.out DB.out (g := g) rfl HU.out (l := uc.queue ++ [cn]) OB.out hob hgb (BO.out.stay DB.out); obtain ⟨V, hV⟩ : ∃ V, Wb4.setCell ⟨Y0.heap.size, 6, none⟩ (.slice qb2.a qb2.n qb2.c) = V := ⟨_, rfl⟩; rw [hV] at hpb; have FIN := Lib.hid hpb.1; have hbo := hpb.2.1; have hbt := hpb.2.2.1; have hbf := hpb.2.2.2; have s6 := (BO.out.stay DB.out).cell 6 _ rfl; have s6f := (BO.out.stay DB.out).thaw 6; have m0 := ((BRT.out.stay DB.out).other (p := ⟨Y0.heap.size, 6, none⟩) (show w.heap.size + 1 ≠ Y0.heap.size by first | omega | (have := Z0.out; omega)) (.slice qb2.a qb2.n qb2.c)).cell 0 _ rfl; rw [hV] at m0; have v0 := hbo.cell 0 _ rfl; have v1 := hbo.cell 1 _ rfl; have v2 := hbo.cell 2 _ rfl; have v3 := hbo.cell 3 _ rfl; have v4 := hbo.cell 4 _ rfl; have v5 := hbo.cell 5 _ rfl; have v6 := hbo.cell 6 _ rfl; have v7 := hbo.cell 7 _ rfl; have ww0 := hbt 0 _ rfl; rw [Nat.add_zero] at ww0; have ww1 := hbt 1 _ rfl; have ww2 := hbt 2 _ rfl; have ww3 := hbt 3 _ rfl; have ww4 := hbt 4 _ rfl; have ww5 := hbt 5 _ rfl; have ww6 := hbt 6 _ rfl; have ww7 := hbt 7 _ rfl; have x0 := hbf (jo * 8); have x1 := hbf (jo * 8 + 1); have x2 := hbf (jo * 8 + 2); have x3 := hbf (jo * 8 + 3); have x4 := hbf (jo * 8 + 4); have x5 := hbf (jo * 8 + 5); have x6 := hbf (jo * 8 + 6); have x7 := hbf (jo * 8 + 7); clear hpb hbo hbt hbf)
    | (refine step_append_run rfl (.tmp 78) (.tmp 81) 38 rfl (.slice qc1.a qc1.n qc1.c) (.slice (some ⟨U.heap.size, 0, none⟩) 1 1) (by simp [Act.eval]) (by simp [Act.eval]) (.slice qc2.a qc2.n qc2.c) Wc4 hrc2 ?_; have hpb := pipe_back (n0 := n0) (w := w) (a := 0) hn T2.out HW.out DC.out (g := g) rfl HU.out (l := uc.queue ++ [cn]) OC.out hob hgb (BO.out.stay DC.out); obtain ⟨V, hV⟩ : ∃ V, Wc4.setCell ⟨Y0.heap.size, 6, none⟩ (.slice qc2.a qc2.n qc2.c) = V := ⟨_, rfl⟩; rw [hV] at hpb; have FIN := Lib.hid hpb.1; have hbo := hpb.2.1; have hbt := hpb.2.2.1; have hbf := hpb.2.2.2; have s6 := (BO.out.stay DC.out).cell 6 _ rfl; have s6f := (BO.out.stay DC.out).thaw 6; have m0 := ((BRT.out.stay DC.out).other (p := ⟨Y0.heap.size, 6, none⟩) (show w.heap.size + 1 ≠ Y0.heap.size by first | omega | (have := Z0.out; omega)) (.slice qc2.a qc2.n qc2.c)).cell 0 _ rfl; rw [hV] at m0; have v0 := hbo.cell 0 _ rfl; have v1 := hbo.cell 1 _ rfl; have v2 := hbo.cell 2 _ rfl; have v3 := hbo.cell 3 _ rfl; have v4 := hbo.cell 4 _ rfl; have v5 := hbo.cell 5 _ rfl; have v6 := hbo.cell 6 _ rfl; have v7 := hbo.cell 7 _ rfl; have ww0 := hbt 0 _ rfl; rw [Nat.add_zero] at ww0; have ww1 := hbt 1 _ rfl; have ww2 := hbt 2 _ rfl; have ww3 := hbt 3 _ rfl; have ww4 := hbt 4 _ rfl; have ww5 := hbt 5 _ rfl; have ww6 := hbt 6 _ rfl; have ww7 := hbt 7 _ rfl; have x0 := hbf (jo * 8); have x1 := hbf (jo * 8 + 1); have x2 := hbf (jo * 8 + 2); have x3 := hbf (jo * 8 + 3); have x4 := hbf (jo * 8 + 4); have x5 := hbf (jo * 8 + 5); have x6 := hbf (jo * 8 + 6); have x7 := hbf (jo * 8 + 7); clear hpb hbo hbt hbf))
  all_goals
    go_wp2
    go_ret
    exact ⟨_, FIN.out⟩
end Go.Proofs.YtbopficnajdaoaaGreatDoor

namespace Go.Proofs.YtbopficnajdaoaaGreatDoor
open Go.RowKit
set_option maxRecDepth 100000
set_option linter.unusedVariables false

set_option maxHeartbeats 1000000 in
theorem l12Far_at (n0 : Nat) (ts : List Tr) (l : List T8) (ck : Int) (jr ja jb : Nat) (cn : Int) (g sc jo : Nat) (rv : Int) (rr rw_ rk : Bool) (w : World) (hT : TaW n0 w ⟨some ⟨g, 0, none⟩, l.length, sc⟩ ts) (hts : ts.map (·.1) = l) (hn : n0 ≤ w.heap.size) (h : OkC l ⟨ck, (jr : Int) + 1, (ja : Int), (jb : Int), cn⟩) (h0 : chkV l ⟨ck, (jr : Int) + 1, (ja : Int), (jb : Int), cn⟩ = 0) (h3 : ck ≠ 3) (hjr : jr < l.length) (hjo : jo < l.length) (hR : rOf l ⟨ck, (jr : Int) + 1, (ja : Int), (jb : Int), cn⟩ = ⟨(jo : Int) + 1, rv, rr, rw_, rk⟩) :
    Calls Tryz.prog 63 #[.slice (some ⟨g, 0, none⟩) l.length sc, .agg #[.int .i64 ck, .int .i64 ((jr : Int) + 1), .int .i64 (ja : Int), .int .i64 (jb : Int), .int .i64 cn], .agg #[.int .i64 ((jo : Int) + 1), .int .i64 rv, .bool rr, .bool rw_, .bool rk]] w (FarPost n0 w ⟨some ⟨g, 0, none⟩, l.length, sc⟩ (farV l ⟨ck, (jr : Int) + 1, (ja : Int), (jb : Int), cn⟩ ⟨(jo : Int) + 1, rv, rr, rw_, rk⟩)) := by
  obtain ⟨hto, hko, hne⟩ := jo_ne h h0 h3 hjr rfl hjo (by rw [hR])
  rw [hR] at hto
  dsimp only at hto hko
  obtain ⟨hth, hkr⟩ := run_at h hjr rfl
  dsimp only at hth
  have hoo := tab_okT h.tab hjo
  have hor := tab_okT h.tab hjr
  have hkk := kind_of hko
  obtain ⟨t, ht, et⟩ := row_get hts hjr
  obtain ⟨u, hu, eu⟩ := row_get hts hjo
  have hb := C5.bd h.2
  dsimp only at hb
  have hll : ts.length = l.length := by rw [← hts]; simp
  have h8 := (tab_len h.tab).2
  have l1 := node_slots hor (.inr hkr)
  obtain ⟨tc, ta, tcp, tq, rfl⟩ := four_of hT ht (by rw [et]; exact l1)
  dsimp only at et
  subst et
  have hjb : jb < 4 := by omega
  have hjn : (cn % 4).toNat < 4 := by omega
  rcases eight (ok_k h.2).1 h3 with hk | hk | hk | hk | hk | hk | hk | hk
  · dsimp only at hk
    subst hk
    obtain ⟨uc, us, uq⟩ := u
    dsimp only at eu
    subst eu
    refine (l12Far_1 n0 ts g l.length sc jr ja jb cn jo rv rr rw_ rk l[jr] l[jo] ta tcp tq us uq w hT hn h8 hjr hjo ht hu).mono fun e w' hp => far_of ?_ hp
    rw [far1 rfl]
    dsimp only
    rw [hto, hts]
  · dsimp only at hk
    subst hk
    obtain ⟨uc, us, uq⟩ := u
    dsimp only at eu
    subst eu
    refine (l12Far_2 n0 ts g l.length sc jr ja jb cn jo rv rr rw_ rk l[jr] l[jo] ta tcp tq us uq w hT hn h8 hjr hjo ht hu).mono fun e w' hp => far_of ?_ hp
    rw [far2 rfl]
    dsimp only
    rw [hto, setTh_at, map_set1 hts]
  · dsimp only at hk
    subst hk
    have hku : l[jo].kind = 2 := by simpa [kindsOf] using hkk
    have l2 := node_slots hoo (.inl hku)
    obtain ⟨uc, ua, ucp, uq, rfl⟩ := four_of hT hu (by rw [eu]; exact l2)
    dsimp only at eu
    subst eu
    refine (l12Far_4 n0 ts g l.length sc jr ja jb cn jo rv rr rw_ rk l[jr] l[jo] ta tcp tq ⟨some ⟨ua, 0, none⟩, 4, ucp⟩ uq w hT hn h8 hjr hjo ht hu (cn % 4).toNat ua ucp (l[jo].slots[(cn % 4).toNat]'(by omega)) (l[jr].slots[jb]'(by omega)) rfl (List.getElem?_eq_getElem _) (List.getElem?_eq_getElem _) (okT_right hoo (by omega)) hjb hjn (tmod_of hb.2.2.2.2.1 4 (by decide))).mono fun e w' hp => far_of ?_ hp
    rw [far4 rfl]
    dsimp only
    rw [hto, hth, setTh_at, map_set1 hts]
    dsimp only
    rw [slotAt_of (j := (cn % 4).toNat) (by omega) (by omega)]
    simp
  · dsimp only at hk
    subst hk
    have hku : l[jo].kind = 2 := by simpa [kindsOf] using hkk
    have l2 := node_slots hoo (.inl hku)
    obtain ⟨uc, ua, ucp, uq, rfl⟩ := four_of hT hu (by rw [eu]; exact l2)
    dsimp only at eu
    subst eu
    refine (l12Far_5 n0 ts g l.length sc jr ja jb cn jo rv rr rw_ rk l[jr] l[jo] ta tcp tq ⟨some ⟨ua, 0, none⟩, 4, ucp⟩ uq w hT hn h8 hjr hjo ht hu (cn % 4).toNat ua ucp (l[jr].slots[jb]'(by omega)) (l[jo].slots[(cn % 4).toNat]'(by omega)) rfl (List.getElem?_eq_getElem _) (List.getElem?_eq_getElem _) hjb hjn (tmod_of hb.2.2.2.2.1 4 (by decide))).mono fun e w' hp => far_of ?_ hp
    rw [far5 rfl]
    dsimp only
    rw [hto, hth, setTh_at, map_set1 hts]
    dsimp only
    rw [slotAt_of (j := jb) (by omega) rfl]
  · dsimp only at hk
    subst hk
    obtain ⟨uc, us, uq⟩ := u
    dsimp only at eu
    subst eu
    have hq3 := (okT_queue hoo).1
    have hqn : uq.n = l[jo].queue.length := (OwnQ.has (hT.get hu).2).len
    by_cases hq : 3 ≤ l[jo].queue.length
    · refine (l12Far_6f n0 ts g l.length sc jr ja jb cn jo rv rr rw_ rk l[jr] l[jo] ta tcp tq us uq w hT hn h8 hjr hjo ht hu (by omega)).mono fun e w' hp => far_of ?_ hp
      rw [far6 rfl]
      dsimp only
      rw [hto, if_pos hq, hts]
    · refine (l12Far_6 n0 ts g l.length sc jr ja jb cn jo rv rr rw_ rk l[jr] l[jo] ta tcp tq us uq w hT hn h8 hjr hjo ht hu (by omega)).mono fun e w' ⟨q, hp⟩ => far_of ?_ hp
      rw [far6 rfl]
      dsimp only
      rw [hto, if_neg hq, setTh_at, map_set1 hts]
  · dsimp only at hk
    subst hk
    obtain ⟨uc, us, uq⟩ := u
    dsimp only at eu
    subst eu
    have hq3 := (okT_queue hoo).1
    have hQ := OwnQ.has (hT.get hu).2
    have hqn : uq.n = l[jo].queue.length := hQ.len
    cases hq : l[jo].queue with
    | nil =>
      refine (l12Far_7n n0 ts g l.length sc jr ja jb cn jo rv rr rw_ rk l[jr] l[jo] ta tcp tq us uq w hT hn h8 hjr hjo ht hu (by rw [hqn, hq]; rfl)).mono fun e w' hp => far_of ?_ hp
      rw [far7n rfl (by dsimp only; rw [hto]; exact hq), hts]
    | cons q qs =>
      obtain ⟨qb, qo, e1, -⟩ := hQ.at (i := 0) (by rw [hq]; simp)
      have hqc := hQ.2.1
      obtain ⟨qa, qn, qc⟩ := uq
      dsimp only at e1 hqn hqc
      subst e1
      have hqn' : qn = qs.length + 1 := by rw [hqn, hq]; rfl
      subst hqn'
      have hls : qs.length ≤ 2 := by rw [hq] at hq3; simp at hq3; omega
      have fin : ∀ e w', (∃ q' : Sl, DeedPost n0 w ⟨some ⟨g, 0, none⟩, l.length, sc⟩ (ts.set jo ({ l[jo] with queue := qs }, us, q')) q e w') → FarPost n0 w ⟨some ⟨g, 0, none⟩, l.length, sc⟩ (farV l ⟨7, (jr : Int) + 1, (ja : Int), (jb : Int), cn⟩ ⟨(jo : Int) + 1, rv, rr, rw_, rk⟩) e w' := fun e w' ⟨q', hp⟩ => far_of (by
        rw [far7 rfl (by dsimp only; rw [hto]; exact hq)]
        dsimp only
        rw [hto, setTh_at, map_set1 hts]) hp
      by_cases h1 : qc = 1
      · subst h1
        have hqs : qs = [] := by cases qs with | nil => rfl | cons a b => simp at hqc
        subst hqs
        exact (l12Far_7o n0 ts g l.length sc jr ja jb cn jo rv rr rw_ rk l[jr] l[jo] ta tcp tq us ⟨some ⟨qb, qo, none⟩, 1, 1⟩ w hT hn h8 hjr hjo ht hu qb qo q rfl hq).mono fin
      · exact (l12Far_7 n0 ts g l.length sc jr ja jb cn jo rv rr rw_ rk l[jr] l[jo] ta tcp tq us ⟨some ⟨qb, qo, none⟩, qs.length + 1, qc⟩ w hT hn h8 hjr hjo ht hu qb qo qs.length qc q qs rfl hq (by omega) h1 (by omega)).mono fin
  · dsimp only at hk
    subst hk
    obtain ⟨uc, us, uq⟩ := u
    dsimp only at eu
    subst eu
    have hv := okT_vers hoo
    have hkd : l[jo].kind = 1 ∨ l[jo].kind = 2 ∨ l[jo].kind = 4 := by simpa [kindsOf] using hkk
    by_cases hq : 5 ≤ l[jo].vers
    · refine (l12Far_8o n0 ts g l.length sc jr ja jb cn jo rv rr rw_ rk l[jr] l[jo] ta tcp tq us uq w hT hn h8 hjr hjo ht hu (by omega)).mono fun e w' hp => far_of ?_ hp
      rw [far8 rfl]
      dsimp only
      rw [hto, if_pos hq, hts]
    · refine (l12Far_8 n0 ts g l.length sc jr ja jb cn jo rv rr rw_ rk l[jr] l[jo] ta tcp tq us uq w hT hn h8 hjr hjo ht hu (by omega) (okT_to0 hoo (by omega)) (okT_new (v := 0) hoo hkd (by omega))).mono fun e w' ⟨ss, q, hp⟩ => far_of ?_ hp
      rw [far8 rfl]
      dsimp only
      rw [hto, if_neg hq, setTh_at, map_set1 hts]
  · dsimp only at hk
    subst hk
    have hk5 : l[jo].kind = 5 := by simpa [kindsOf] using hkk
    obtain ⟨jt, hjt, hjto, hkt⟩ := gate_to h.tab hjo hk5
    obtain ⟨p, hp0, ep⟩ := row_get hts hjt
    obtain ⟨uc, us, uq⟩ := u
    obtain ⟨pc, ps, pq⟩ := p
    dsimp only at eu ep
    subst eu ep
    have n1 : jt ≠ jo := fun e => by subst e; omega
    have hnum := okT_num hoo
    have hnum0 := okT_num0 hoo (by omega)
    refine (l12Far_9 n0 ts g l.length sc jr ja jb cn jo rv rr rw_ rk l[jr] l[jo] ta tcp tq us uq w hT hn h8 hjr hjo ht hu jt l[jt] ps pq (cn % 2) hp0 n1 hjto (by omega) hjt (Int.tmod_eq_emod_of_nonneg hb.2.2.2.2.1)).mono fun e w' hp => far_of ?_ hp
    rw [far9 rfl]
    dsimp only
    rw [hto, hjto, setTh_at, setTh_at, thAt_of hjt (show (jt : Int) + 1 - 1 = jt by omega), map_set1 (map_set1 hts _ _), ← hjto]
end Go.Proofs.YtbopficnajdaoaaGreatDoor

namespace Go.Proofs.YtbopficnajdaoaaGreatDoor
open Go.RowKit
set_option maxRecDepth 100000
set_option linter.unusedVariables false

theorem rem_marks (n : Int) (h : 0 ≤ n ∧ n ≤ 99) : (Int.tmod n 2 == 1) = mk1 n ∧ (Int.tmod (IntKind.i64.wrap (Int.tdiv n 2)) 2 == 1) = mk2 n ∧ (Int.tmod (IntKind.i64.wrap (Int.tdiv n 4)) 2 == 1) = mk4 n := by
  have key : ∀ k : Fin 100, (Int.tmod (k.val : Int) 2 == 1) = mk1 (k.val : Int) ∧ (Int.tmod (IntKind.i64.wrap (Int.tdiv (k.val : Int) 2)) 2 == 1) = mk2 (k.val : Int) ∧ (Int.tmod (IntKind.i64.wrap (Int.tdiv (k.val : Int) 4)) 2 == 1) = mk4 (k.val : Int) := by decide +kernel
  have := key ⟨n.toNat, by omega⟩
  have e : ((n.toNat : Nat) : Int) = n := by omega
  simpa only [e] using this
def L12Post (n0 : Nat) (l : List T8) (c : C5) (s : Sl) (w : World) (e : Ending) (w' : World) : Prop := ∃ ts' : List Tr, e = .returned (.tuple #[.slice s.a s.n s.c, .int .i64 (doV l c).2]) ∧ TaW n0 w' s ts' ∧ ts'.map (·.1) = (doV l c).1 ∧ Below n0 w w'
set_option maxHeartbeats 8000000 in
theorem l12Do_at (n0 : Nat) (ts : List Tr) (l : List T8) (g N sc : Nat) (ck : Int) (jr ja jb : Nat) (cn : Int) (rt rv : Int) (rr rw_ rk : Bool) (tc : T8) (ta tcp : Nat) (tq : Sl) (w : World) (hT : TaW n0 w ⟨some ⟨g, 0, none⟩, N, sc⟩ ts) (hts : ts.map (·.1) = l) (hn : n0 ≤ w.heap.size) (hN : l.length = N)
    (h : OkC l ⟨ck, (jr : Int) + 1, (ja : Int), (jb : Int), cn⟩) (hjr : jr < l.length) (hja : ja < 4) (ht : ts[jr]? = some (tc, ⟨some ⟨ta, 0, none⟩, 4, tcp⟩, tq)) (hr : rOf l ⟨ck, (jr : Int) + 1, (ja : Int), (jb : Int), cn⟩ = ⟨rt, rv, rr, rw_, rk⟩) (hx : tc.slots[ja]? = some ⟨rt, rv, rr, rw_, rk⟩) (hjb : jb < 4) (yb : R5) (hyb : tc.slots[jb]? = some yb) (htc : l[jr]? = some tc) :
    Calls Tryz.prog 38 #[.slice (some ⟨g, 0, none⟩) N sc, .agg #[.int .i64 ck, .int .i64 ((jr : Int) + 1), .int .i64 (ja : Int), .int .i64 (jb : Int), .int .i64 cn]] w (L12Post n0 l ⟨ck, (jr : Int) + 1, (ja : Int), (jb : Int), cn⟩ ⟨some ⟨g, 0, none⟩, N, sc⟩ w) := by
  have h8 : N ≤ 8 := hN ▸ (tab_len h.tab).2
  obtain ⟨Y, hY⟩ : ∃ Y, w.alloc (.cells (C5.cs ⟨ck, (jr : Int) + 1, (ja : Int), (jb : Int), cn⟩) 25) = Y := ⟨_, rfl⟩
  have KC := (Kn.refl (w := w)).new 25 (C5.cs ⟨ck, (jr : Int) + 1, (ja : Int), (jb : Int), cn⟩)
  rw [hY] at KC
  have bC := KC.box (b := w.heap.size) (T := 25) (vs := C5.cs ⟨ck, (jr : Int) + 1, (ja : Int), (jb : Int), cn⟩) (by simp)
  have c0 := bC.cell 0 _ rfl
  have c1 := bC.cell 1 _ rfl
  have c2 := bC.cell 2 _ rfl
  have c3 := bC.cell 3 _ rfl
  have c4 := bC.cell 4 _ rfl
  obtain ⟨v, hv⟩ : ∃ v, chkV l ⟨ck, (jr : Int) + 1, (ja : Int), (jb : Int), cn⟩ = v := ⟨_, rfl⟩
  have HV := Lib.hid hv
  obtain ⟨A1, a2, hA⟩ : ∃ A1 a2, actV l ⟨ck, (jr : Int) + 1, (ja : Int), (jb : Int), cn⟩ = (A1, a2) := ⟨_, _, rfl⟩
  have HA := Lib.hid hA
  have T0 := Lib.hid (hT.stay KC.1)
  have WY := Lib.hid KC.1
  have BC := Lib.hid bC
  have HT := Lib.hid ht
  have HTS := Lib.hid hts
  have HH := Lib.hid h
  have HR := Lib.hid hr
  have HX := Lib.hid hx
  have HYB := Lib.hid hyb
  have HTC := Lib.hid htc
  have hjl := Lib.hid hjr
  have HN := Lib.hid hN
  have hj2 : (jr : Int) < (N : Int) := by omega
  have hj3 : (ja : Int) < 4 := by omega
  have hj4 : (jb : Int) < 4 := by omega
  have HTT := Lib.hid (show HasT Y ⟨some ⟨g, 0, none⟩, N, sc⟩ l from hts ▸ T0.out.hasT)
  clear KC hT bC ht hts h hr hx hyb htc hv hA hjr hN
  go_enter Tryz.func38, Tryz.ntmps38
  go_wp2_with fail
  refine (l11Check_val (s := ⟨some ⟨g, 0, none⟩, N, sc⟩) (c := ⟨ck, (jr : Int) + 1, (ja : Int), (jb : Int), cn⟩) HV.out _ HTT.out HH.out.1 HH.out.2).mono ?_
  rintro e y1 ⟨rfl, hb⟩
  have B1 := Lib.hid hb
  have t1 := T0.out.stay hb
  have bC1 := BC.out.stay hb
  clear hb c0 c1 c2 c3 c4
  have c0 := bC1.cell 0 _ rfl
  have c1 := bC1.cell 1 _ rfl
  have c2 := bC1.cell 2 _ rfl
  have c3 := bC1.cell 3 _ rfl
  have c4 := bC1.cell 4 _ rfl
  have d5 := t1.at (g := g) rfl HT.out 5 _ rfl
  have hra := (t1.get HT.out).1.at szR rfl HX.out
  have ra0 := hra 0 _ rfl
  rw [Nat.add_zero] at ra0
  have ra1 := hra 1 _ rfl
  have ra2 := hra 2 _ rfl
  have ra3 := hra 3 _ rfl
  have ra4 := hra 4 _ rfl
  have bA : Below y1.heap.size y1 (y1.alloc (.cells #[.int .i64 0, .int .i64 0, .bool false, .bool false, .bool false] 34)) := (Below.refl _ _).alloc (Nat.le_refl _) _
  have xd5 := stayCell d5 bA
  have xa0 := stayCell ra0 bA
  have xa1 := stayCell ra1 bA
  have xa2 := stayCell ra2 bA
  have xa3 := stayCell ra3 bA
  have xa4 := stayCell ra4 bA
  have xc0 := stayCell c0 bA
  have xc1 := stayCell c1 bA
  have xc2 := stayCell c2 bA
  have xc3 := stayCell c3 bA
  have xc4 := stayCell c4 bA
  clear bA hra
  obtain ⟨Y2, hY2⟩ : ∃ Y2, (y1.drew).alloc (.cells (R5.cs ⟨rt, rv, rr, rw_, rk⟩) 34) = Y2 := ⟨_, rfl⟩
  have b2 : Below y1.heap.size y1 Y2 := hY2 ▸ ((Below.refl _ _).drew).alloc (Nat.le_refl _) _
  have bR : Box Y2 y1.heap.size 34 (R5.cs ⟨rt, rv, rr, rw_, rk⟩) := by
    have := Box.fresh y1.drew 34 (R5.cs ⟨rt, rv, rr, rw_, rk⟩)
    rw [hY2] at this
    exact this
  have B2 := Lib.hid (B1.out.trans (b2.mono B1.out.size))
  have BR := Lib.hid bR
  clear t1 bC1 b2 bR
  go_upto_region 2 with fail
  go_cut [7] (fun sl wx => sl = .pointer (some ⟨y1.heap.size, 0, none⟩) ∧ wx = Y2)
  case first =>
    go_region
    all_goals
      go_wp2_with fail
      go_meet
      first | exact ⟨rfl, rfl⟩ | exact ⟨rfl, hY2⟩
  case rest =>
  obtain ⟨rfl, rfl⟩ := hcut
  clear c0 c1 c2 c3 c4 d5 ra0 ra1 ra2 ra3 ra4 xd5 xa0 xa1 xa2 xa3 xa4 xc0 xc1 xc2 xc3 xc4 hY2
  have bC2 := BC.out.stay B2.out
  have c0 := bC2.cell 0 _ rfl
  clear bC2
  go_upto_block 0 with fail
  go_cut [6] (fun sl wx => ∃ ts' : List Tr, sl = .int .i64 a2 ∧ TaW n0 wx ⟨some ⟨g, 0, none⟩, N, sc⟩ ts' ∧ ts'.map (·.1) = A1 ∧ Below n0 w wx ∧ w.heap.size ≤ wx.heap.size ∧ Box wx w.heap.size 25 (C5.cs ⟨ck, (jr : Int) + 1, (ja : Int), (jb : Int), cn⟩))
  case first =>
    have hzz := B2.out.size
    have BW := Lib.hid (show Below w.heap.size w wc from WY.out.trans (B2.out.mono WY.out.size))
    have TW := Lib.hid (T0.out.stay B2.out)
    have BCW := Lib.hid (BC.out.stay B2.out)
    have KEY := Lib.hid (show ∀ (ts' : List Tr) (a : Int) (y : World), DeedPost n0 w ⟨some ⟨g, 0, none⟩, N, sc⟩ ts' a (.returned (.int .i64 a)) y → Box y w.heap.size 25 (C5.cs ⟨ck, (jr : Int) + 1, (ja : Int), (jb : Int), cn⟩) → actV l ⟨ck, (jr : Int) + 1, (ja : Int), (jb : Int), cn⟩ = (ts'.map (·.1), a) → ∃ ts' : List Tr, (Value.int .i64 a) = .int .i64 a2 ∧ TaW n0 y ⟨some ⟨g, 0, none⟩, N, sc⟩ ts' ∧ ts'.map (·.1) = A1 ∧ Below n0 w y ∧ w.heap.size ≤ y.heap.size ∧ Box y w.heap.size 25 (C5.cs ⟨ck, (jr : Int) + 1, (ja : Int), (jb : Int), cn⟩) from fun ts' a y hP hb ha => by
      have e := HA.out.symm.trans ha
      simp only [Prod.mk.injEq] at e
      exact ⟨ts', by rw [e.2], hP.2.1, e.1.symm, hP.2.2.1, hP.2.2.2.1, hb⟩)
    by_cases hv0 : v = 0
    case neg =>
      have hneg : v < 0 := by have := chk_neg HH.out (by rw [HV.out]; exact hv0); rw [HV.out] at this; exact this
      have ha : actV l ⟨ck, (jr : Int) + 1, (ja : Int), (jb : Int), cn⟩ = (ts.map (·.1), v) := by unfold actV; rw [if_pos (by rw [HV.out]; exact hneg), HV.out, HTS.out]
      have HFIN := Lib.hid (KEY.out ts v wc (dp_same TW.out BW.out hn) BCW.out ha)
      clear ha
      go_wp2_with fail
      go_meet
      exact HFIN.out
    subst hv0
    have bRc := BR.out
    by_cases h3 : ck = 3
    · subst h3
      have MK := Lib.hid (rem_marks cn (C5.bd HH.out.2).2.2.2.2)
      have HOK := Lib.hid (show R5.ok ⟨rt, rv, rr, rw_, rk⟩ = true by rw [← HR.out]; exact (rOf_in HH.out).1)
      have FX := Lib.hid (show ∀ y, Below wc.heap.size wc y → y.cell? ⟨w.heap.size, 1, none⟩ = some (.int .i64 ((jr : Int) + 1)) ∧ y.cell? ⟨w.heap.size, 3, none⟩ = some (.int .i64 (jb : Int)) ∧ y.cell? ⟨w.heap.size, 4, none⟩ = some (.int .i64 cn) ∧ y.cell? ⟨y1.heap.size, 0, none⟩ = some (.int .i64 rt) ∧ y.cell? ⟨y1.heap.size, 1, none⟩ = some (.int .i64 rv) ∧ y.cell? ⟨y1.heap.size, 2, none⟩ = some (.bool rr) ∧ y.cell? ⟨y1.heap.size, 3, none⟩ = some (.bool rw_) ∧ y.cell? ⟨y1.heap.size, 4, none⟩ = some (.bool rk) ∧ y.cell? ⟨g, jr * 8 + 5, none⟩ = some (.slice (some ⟨ta, 0, none⟩) 4 tcp) from fun y hb => by
        have d := BCW.out.stay hb
        have e := BR.out.stay hb
        exact ⟨d.cell 1 _ rfl, d.cell 3 _ rfl, d.cell 4 _ rfl, e.cell 0 _ rfl, e.cell 1 _ rfl, e.cell 2 _ rfl, e.cell 3 _ rfl, e.cell 4 _ rfl, (TW.out.stay hb).at (g := g) rfl HT.out 5 _ rfl⟩)
      obtain ⟨b2, TB, cur2, hTB, e2, hb2, bx2, -⟩ := rowFour (TW.out.get HT.out).1 (show tc.slots.length = 4 by rw [← (TW.out.get HT.out).1.1])
      cases e2
      have taY : ta < Y.heap.size := by
        obtain ⟨b', _, _, _, e', _, bb, _⟩ := rowFour (T0.out.get HT.out).1 (show tc.slots.length = 4 by rw [← (T0.out.get HT.out).1.1])
        cases e'
        exact bb.lt
      obtain ⟨-, hg0, hgl, curg, bxg⟩ := TW.out.1.blk (b := g) (o := 0) rfl
      have y1Y := B1.out.size
      have FY := Lib.hid (show ∀ y, Below wc.heap.size wc y → ∀ v0 v1 v2 v3 v4 : Value, (((((y.setCell ⟨ta, jb * 5, none⟩ v0).setCell ⟨ta, jb * 5 + 1, none⟩ v1).setCell ⟨ta, jb * 5 + 2, none⟩ v2).setCell ⟨ta, jb * 5 + 3, none⟩ v3).setCell ⟨ta, jb * 5 + 4, none⟩ v4).cell? ⟨w.heap.size, 1, none⟩ = some (.int .i64 ((jr : Int) + 1)) ∧ (((((y.setCell ⟨ta, jb * 5, none⟩ v0).setCell ⟨ta, jb * 5 + 1, none⟩ v1).setCell ⟨ta, jb * 5 + 2, none⟩ v2).setCell ⟨ta, jb * 5 + 3, none⟩ v3).setCell ⟨ta, jb * 5 + 4, none⟩ v4).cell? ⟨w.heap.size, 3, none⟩ = some (.int .i64 (jb : Int)) ∧ (((((y.setCell ⟨ta, jb * 5, none⟩ v0).setCell ⟨ta, jb * 5 + 1, none⟩ v1).setCell ⟨ta, jb * 5 + 2, none⟩ v2).setCell ⟨ta, jb * 5 + 3, none⟩ v3).setCell ⟨ta, jb * 5 + 4, none⟩ v4).cell? ⟨w.heap.size, 4, none⟩ = some (.int .i64 cn) ∧ (((((y.setCell ⟨ta, jb * 5, none⟩ v0).setCell ⟨ta, jb * 5 + 1, none⟩ v1).setCell ⟨ta, jb * 5 + 2, none⟩ v2).setCell ⟨ta, jb * 5 + 3, none⟩ v3).setCell ⟨ta, jb * 5 + 4, none⟩ v4).cell? ⟨y1.heap.size, 0, none⟩ = some (.int .i64 rt) ∧ (((((y.setCell ⟨ta, jb * 5, none⟩ v0).setCell ⟨ta, jb * 5 + 1, none⟩ v1).setCell ⟨ta, jb * 5 + 2, none⟩ v2).setCell ⟨ta, jb * 5 + 3, none⟩ v3).setCell ⟨ta, jb * 5 + 4, none⟩ v4).cell? ⟨y1.heap.size, 1, none⟩ = some (.int .i64 rv) ∧ (((((y.setCell ⟨ta, jb * 5, none⟩ v0).setCell ⟨ta, jb * 5 + 1, none⟩ v1).setCell ⟨ta, jb * 5 + 2, none⟩ v2).setCell ⟨ta, jb * 5 + 3, none⟩ v3).setCell ⟨ta, jb * 5 + 4, none⟩ v4).cell? ⟨y1.heap.size, 2, none⟩ = some (.bool rr) ∧ (((((y.setCell ⟨ta, jb * 5, none⟩ v0).setCell ⟨ta, jb * 5 + 1, none⟩ v1).setCell ⟨ta, jb * 5 + 2, none⟩ v2).setCell ⟨ta, jb * 5 + 3, none⟩ v3).setCell ⟨ta, jb * 5 + 4, none⟩ v4).cell? ⟨y1.heap.size, 3, none⟩ = some (.bool rw_) ∧ (((((y.setCell ⟨ta, jb * 5, none⟩ v0).setCell ⟨ta, jb * 5 + 1, none⟩ v1).setCell ⟨ta, jb * 5 + 2, none⟩ v2).setCell ⟨ta, jb * 5 + 3, none⟩ v3).setCell ⟨ta, jb * 5 + 4, none⟩ v4).cell? ⟨y1.heap.size, 4, none⟩ = some (.bool rk) ∧ (((((y.setCell ⟨ta, jb * 5, none⟩ v0).setCell ⟨ta, jb * 5 + 1, none⟩ v1).setCell ⟨ta, jb * 5 + 2, none⟩ v2).setCell ⟨ta, jb * 5 + 3, none⟩ v3).setCell ⟨ta, jb * 5 + 4, none⟩ v4).cell? ⟨g, jr * 8 + 5, none⟩ = some (.slice (some ⟨ta, 0, none⟩) 4 tcp) from fun y hb v0 v1 v2 v3 v4 => by
        have d := other5 (BCW.out.stay hb) (o := jb * 5) (Box.ne (BCW.out.stay hb) (bx2.stay hb) (fun e => nC (e ▸ tyR hTB))) v0 v1 v2 v3 v4
        have e := other5 (BR.out.stay hb) (b := ta) (o := jb * 5) (show y1.heap.size ≠ ta by omega) v0 v1 v2 v3 v4
        have hc := (TW.out.stay hb).at (g := g) rfl HT.out 5 _ rfl
        have gb := bxg.stay hb
        have g2 := other5 gb (b := ta) (o := jb * 5) (Box.ne gb (bx2.stay hb) hTB.neT.symm) v0 v1 v2 v3 v4
        refine ⟨d.cell 1 _ rfl, d.cell 3 _ rfl, d.cell 4 _ rfl, e.cell 0 _ rfl, e.cell 1 _ rfl, e.cell 2 _ rfl, e.cell 3 _ rfl, e.cell 4 _ rfl, ?_⟩
        rw [g2.at, ← gb.at]
        exact hc)
      have HCP := Lib.hid (show ∀ y5, Below wc.heap.size wc y5 → ∃ ts' : List Tr, (Value.int .i64 0) = .int .i64 a2 ∧ TaW n0 (set5 y5 ta (jb * 5) (lessR ⟨rt, rv, rr, rw_, rk⟩ (mk1 cn) (mk2 cn) (mk4 cn))) ⟨some ⟨g, 0, none⟩, N, sc⟩ ts' ∧ ts'.map (·.1) = A1 ∧ Below n0 w (set5 y5 ta (jb * 5) (lessR ⟨rt, rv, rr, rw_, rk⟩ (mk1 cn) (mk2 cn) (mk4 cn))) ∧ w.heap.size ≤ (set5 y5 ta (jb * 5) (lessR ⟨rt, rv, rr, rw_, rk⟩ (mk1 cn) (mk2 cn) (mk4 cn))).heap.size ∧ Box (set5 y5 ta (jb * 5) (lessR ⟨rt, rv, rr, rw_, rk⟩ (mk1 cn) (mk2 cn) (mk4 cn))) w.heap.size 25 (C5.cs ⟨3, (jr : Int) + 1, (ja : Int), (jb : Int), cn⟩) from fun y5 hb => by
        refine KEY.out _ 0 _ (slot_put (w := w) (V := y5) TW.out hn BW.out (g := g) rfl HT.out HYB.out hb (lessR ⟨rt, rv, rr, rw_, rk⟩ (mk1 cn) (mk2 cn) (mk4 cn))).1 (set5_other (BCW.out.stay hb) (Box.ne (BCW.out.stay hb) (bx2.stay hb) (fun e => nC (e ▸ tyR hTB))) _) ?_
        rw [act_copy HH.out rfl, map_set1 HTS.out, (run_at HH.out hjl.out rfl).1, HR.out, setTh_at, show l[jr]'hjl.out = tc from Option.some.inj ((List.getElem?_eq_getElem hjl.out).symm.trans HTC.out)]
        simp)
      have hB : Below wc.heap.size wc wc.drew := (Below.refl _ _).drew
      have hB0 : Below wc.heap.size wc wc := Below.refl _ _
      have wr : wrap64 ((jr : Int) + 1 - 1) = (jr : Int) := by unfold wrap64; omega
      have wr2 : IntKind.i64.wrap (jr : Int) = (jr : Int) := IntWalk.i64_in _ (by omega)
      have wr3 : IntKind.i64.wrap (jb : Int) = (jb : Int) := IntWalk.i64_in _ (by omega)
      clear bx2 bxg hTB hb2 hg0 hgl bRc
      go_wp2_with fail
      go_region_held3 (fun y => y.cell? ⟨w.heap.size, 1, none⟩ = some (.int .i64 ((jr : Int) + 1)) ∧ y.cell? ⟨w.heap.size, 3, none⟩ = some (.int .i64 (jb : Int)) ∧ y.cell? ⟨w.heap.size, 4, none⟩ = some (.int .i64 cn) ∧ y.cell? ⟨y1.heap.size, 0, none⟩ = some (.int .i64 rt) ∧ y.cell? ⟨y1.heap.size, 1, none⟩ = some (.int .i64 rv) ∧ y.cell? ⟨y1.heap.size, 2, none⟩ = some (.bool rr) ∧ y.cell? ⟨y1.heap.size, 3, none⟩ = some (.bool rw_) ∧ y.cell? ⟨y1.heap.size, 4, none⟩ = some (.bool rk) ∧ y.cell? ⟨g, jr * 8 + 5, none⟩ = some (.slice (some ⟨ta, 0, none⟩) 4 tcp))
        (first | with_reducible exact FX.out _ hB | with_reducible exact FX.out _ hB0 | with_reducible exact FY.out _ hB _ _ _ _ _)
        (first | (go_at_call 61; refine (l2Less_ok ⟨rt, rv, rr, rw_, rk⟩ HOK.out _ _ _ _).mono ?_; rintro e y5 ⟨rfl, hb⟩; have hB := hB.trans (hb.mono hB.size); obtain ⟨-, c5, a0, a1', a2', a3, a4, f0, f1, f2, f3, f4⟩ := slot_put (w := w) (V := y5) TW.out hn BW.out (g := g) rfl HT.out HYB.out hB ⟨rt, rv, rr, rw_, rk⟩; clear hb c5))
      all_goals
        go_wp2_with fail
        go_meet
        have hf := HCP.out _ hB
        rw [← MK.out.1, ← MK.out.2.1, ← MK.out.2.2] at hf
        exact hf
    · have h3' : (ck == 3) = false := by simpa using h3
      have H3 := Lib.hid h3
      obtain ⟨v2, hv2⟩ : ∃ v2, liveB l ⟨rt, rv, rr, rw_, rk⟩ = v2 := ⟨_, rfl⟩
      have HV2 := Lib.hid hv2
      have HLB := Lib.hid (show liveB l (rOf l ⟨ck, (jr : Int) + 1, (ja : Int), (jb : Int), cn⟩) = v2 by rw [HR.out]; exact hv2)
      have HT2 := Lib.hid (show HasT wc ⟨some ⟨g, 0, none⟩, N, sc⟩ l from HTS.out ▸ TW.out.hasT)
      clear h3 hv2
      have q0 := bRc.cell 0 _ rfl
      have q1 := bRc.cell 1 _ rfl
      have q2 := bRc.cell 2 _ rfl
      have q3 := bRc.cell 3 _ rfl
      have q4 := bRc.cell 4 _ rfl
      clear bRc
      go_wp2_with fail
      refine (l3Live_val (s := ⟨some ⟨g, 0, none⟩, N, sc⟩) (r := ⟨rt, rv, rr, rw_, rk⟩) HV2.out _ HT2.out (by have := HN.out; omega)).mono ?_
      rintro e y3 ⟨rfl, hb⟩
      have B3 := Lib.hid (B2.out.trans (hb.mono B2.out.size))
      have BW3 := Lib.hid (BW.out.trans (hb.mono BW.out.size))
      have T3 := Lib.hid (TW.out.stay hb)
      have bC3 := BCW.out.stay hb
      have bR3 := BR.out.stay hb
      have BC3 := Lib.hid bC3
      have BR3 := Lib.hid bR3
      clear hb q0 q1 q2 q3 q4 HT2
      cases v2
      · have HFIN := Lib.hid (KEY.out ts 0 y3 (dp_same T3.out BW3.out hn) BC3.out (by rw [act_dead HV.out H3.out HLB.out, HTS.out]))
        clear bC3 bR3
        go_wp2_with fail
        go_meet
        exact HFIN.out
      · obtain ⟨jo, hjo, hro, hto, hko⟩ := obj_of HV.out H3.out
        have hrt : rt = (jo : Int) + 1 := by have := hro; rw [HR.out] at this; exact this
        subst hrt
        have HJO := Lib.hid hjo
        clear hjo hro hto hko
        have c0 := bC3.cell 0 _ rfl
        have c1 := bC3.cell 1 _ rfl
        have c2 := bC3.cell 2 _ rfl
        have c3 := bC3.cell 3 _ rfl
        have c4 := bC3.cell 4 _ rfl
        have q0 := bR3.cell 0 _ rfl
        have q1 := bR3.cell 1 _ rfl
        have q2 := bR3.cell 2 _ rfl
        have q3 := bR3.cell 3 _ rfl
        have q4 := bR3.cell 4 _ rfl
        clear bC3 bR3
        go_wp2_with fail
        have hL := HN.out
        subst hL
        refine (l12Far_at n0 ts l ck jr ja jb cn g sc jo rv rr rw_ rk y3 T3.out HTS.out (Nat.le_trans hn BW3.out.size) HH.out HV.out H3.out hjl.out HJO.out HR.out).mono ?_
        rintro e y4 ⟨ts', hP, hm⟩
        obtain ⟨rfl, tP, bP, zP, kP⟩ := hP
        have hact := act_far HV.out H3.out HLB.out
        rw [HR.out] at hact
        have hm' : ts'.map (·.1) = (actV l ⟨ck, (jr : Int) + 1, (ja : Int), (jb : Int), cn⟩).1 := by rw [hact, hm]
        have HPB := Lib.hid (deed_up BW3.out hn (show DeedPost n0 y3 ⟨some ⟨g, 0, none⟩, l.length, sc⟩ ts' 0 (.returned (.int .i64 0)) y4 from ⟨rfl, tP, bP, zP, kP⟩))
        have BC4 := Lib.hid (kP w.heap.size 25 (C5.cs ⟨ck, (jr : Int) + 1, (ja : Int), (jb : Int), cn⟩) BC3.out.lt (.inl nC) BC3.out)
        have BR4 := Lib.hid (kP y1.heap.size 34 (R5.cs ⟨(jo : Int) + 1, rv, rr, rw_, rk⟩) BR3.out.lt (.inr ⟨rfl, rfl⟩) BR3.out)
        have hla : (actV l ⟨ck, (jr : Int) + 1, (ja : Int), (jb : Int), cn⟩).1.length = l.length := act_len _ _
        obtain ⟨sv, hsv⟩ : ∃ sv, seesT (thAt l ((jr : Int) + 1)) (thAt l ((jo : Int) + 1)) = sv := ⟨_, rfl⟩
        have HSV := Lib.hid (show seesT (thAt (actV l ⟨ck, (jr : Int) + 1, (ja : Int), (jb : Int), cn⟩).1 ((jr : Int) + 1)) (thAt (actV l ⟨ck, (jr : Int) + 1, (ja : Int), (jb : Int), cn⟩).1 ((jo : Int) + 1)) = sv by
          rw [thAt_of (l := (actV l ⟨ck, (jr : Int) + 1, (ja : Int), (jb : Int), cn⟩).1) (j := jr) (by rw [hla]; exact hjl.out) (by omega), thAt_of (l := (actV l ⟨ck, (jr : Int) + 1, (ja : Int), (jb : Int), cn⟩).1) (j := jo) (by rw [hla]; exact HJO.out) (by omega), ← hsv, thAt_of hjl.out (show (jr : Int) + 1 - 1 = jr by omega), thAt_of HJO.out (show (jo : Int) + 1 - 1 = jo by omega)]
          exact seesT_eq (act_lab HH.out hjl.out).1 (act_lab HH.out hjl.out).2 (act_lab HH.out HJO.out).1 (act_lab HH.out HJO.out).2)
        have HT4 := Lib.hid (show HasT y4 ⟨some ⟨g, 0, none⟩, l.length, sc⟩ (actV l ⟨ck, (jr : Int) + 1, (ja : Int), (jb : Int), cn⟩).1 from hm' ▸ tP.hasT)
        have HIN := Lib.hid (show inR ((jr : Int) + 1) 1 (actV l ⟨ck, (jr : Int) + 1, (ja : Int), (jb : Int), cn⟩).1.length = true ∧ inR ((jo : Int) + 1) 1 (actV l ⟨ck, (jr : Int) + 1, (ja : Int), (jb : Int), cn⟩).1.length = true ∧ (actV l ⟨ck, (jr : Int) + 1, (ja : Int), (jb : Int), cn⟩).1.length ≤ 1048576 by
          have h1 := hjl.out
          have h2 := HJO.out
          refine ⟨?_, ?_, by omega⟩
          · rw [hla]; simp [inR]; omega
          · rw [hla]; simp [inR]; omega)
        have HACT := Lib.hid (show actV l ⟨ck, (jr : Int) + 1, (ja : Int), (jb : Int), cn⟩ = (ts'.map (·.1), if sv then (farV l ⟨ck, (jr : Int) + 1, (ja : Int), (jb : Int), cn⟩ ⟨(jo : Int) + 1, rv, rr, rw_, rk⟩).2 else 0) by
          rw [hact, hm, hsv])
        have HMM := Lib.hid hm'
        obtain ⟨ans, hans⟩ : ∃ ans, (farV l ⟨ck, (jr : Int) + 1, (ja : Int), (jb : Int), cn⟩ ⟨(jo : Int) + 1, rv, rr, rw_, rk⟩).2 = ans := ⟨_, rfl⟩
        rw [hans] at HACT ⊢
        clear tP bP zP kP hact hm hm' hla hsv hans c0 c1 c2 c3 c4 q0 q1 q2 q3 q4
        have c1 := BC4.out.cell 1 _ rfl
        have q0 := BR4.out.cell 0 _ rfl
        go_wp2_with fail
        refine (l11Sees_val (s := ⟨some ⟨g, 0, none⟩, l.length, sc⟩) HSV.out _ HT4.out HIN.out.2.2 (act_tab HH.out) HIN.out.1 HIN.out.2.1).mono ?_
        rintro e y5 ⟨rfl, hb⟩
        have FIN := Lib.hid (show ∀ a : Int, actV l ⟨ck, (jr : Int) + 1, (ja : Int), (jb : Int), cn⟩ = (ts'.map (·.1), a) → ∃ ts' : List Tr, (Value.int .i64 a) = .int .i64 a2 ∧ TaW n0 y5 ⟨some ⟨g, 0, none⟩, l.length, sc⟩ ts' ∧ ts'.map (·.1) = A1 ∧ Below n0 w y5 ∧ w.heap.size ≤ y5.heap.size ∧ Box y5 w.heap.size 25 (C5.cs ⟨ck, (jr : Int) + 1, (ja : Int), (jb : Int), cn⟩) from fun a ha => KEY.out ts' a y5 ⟨rfl, HPB.out.2.1.stay hb, HPB.out.2.2.1.trans (hb.mono (by have := HPB.out.2.2.2.1; omega)), Nat.le_trans HPB.out.2.2.2.1 hb.size, fun b T cs hlt hN kx => (HPB.out.2.2.2.2 b T cs hlt hN kx).stay hb⟩ (BC4.out.stay hb) ha)
        clear hb c1 q0
        cases sv
        · go_wp2_with fail
          go_meet
          exact FIN.out _ HACT.out
        · go_wp2_with fail
          go_meet
          exact FIN.out _ HACT.out
  case rest =>
    obtain ⟨ts', rfl, t6, hm, hb6, hz6, bC6⟩ := hcut
    have c1 := bC6.cell 1 _ rfl
    have hlA : A1.length = l.length := by have := act_len l ⟨ck, (jr : Int) + 1, (ja : Int), (jb : Int), cn⟩; rw [HA.out] at this; exact this
    have hlT : ts'.length = l.length := by have := congrArg List.length hm; simp at this; omega
    obtain ⟨t', ht', et'⟩ := row_get hm (j := jr) (by rw [hlA]; exact hjl.out)
    have d4 := t6.at (g := g) rfl ht' 4 _ rfl
    have f4 := t6.1.thaw (g := g) rfl (jr * 8 + 4)
    obtain ⟨-, hg0, -⟩ := t6.1.blk (b := g) (o := 0) rfl
    have TF := Lib.hid (t6.num (g := g) rfl ht' a2)
    have BF := Lib.hid (hb6.setCell (p := ⟨g, jr * 8 + 4, none⟩) hg0 (.int .i64 a2))
    have HMF := Lib.hid (show (ts'.set jr ({ t'.1 with num := a2 }, t'.2)).map (·.1) = (doV l ⟨ck, (jr : Int) + 1, (ja : Int), (jb : Int), cn⟩).1 by
      rw [map_set1 hm, do_first hjl.out rfl]
      simp only [HA.out]
      rw [et'])
    have HAN := Lib.hid (show (doV l ⟨ck, (jr : Int) + 1, (ja : Int), (jb : Int), cn⟩).2 = a2 by rw [do_snd, HA.out])
    clear t6 hm hb6 bC6 ht' et' hg0 hlA hlT c0 hz6
    go_wp2
    refine bodyPost_ret (results_tmp2 Tryz.results38 _ _) rfl ?_
    refine ⟨_, ?_, TF.out, HMF.out, BF.out⟩
    rw [HAN.out]; rfl
end Go.Proofs.YtbopficnajdaoaaGreatDoor

namespace Go.Proofs.YtbopficnajdaoaaGreatDoor
open Go.RowKit
set_option maxRecDepth 100000
set_option linter.unusedVariables false

theorem l12Do_any (n0 : Nat) (s : Sl) (ts : List Tr) (l : List T8) (c : C5) (w : World) (hT : TaW n0 w s ts) (hts : ts.map (·.1) = l) (hn : n0 ≤ w.heap.size) (h : OkC l c) :
    Calls Tryz.prog 38 #[.slice s.a s.n s.c, .agg #[.int .i64 c.k, .int .i64 c.r, .int .i64 c.a, .int .i64 c.b, .int .i64 c.n]] w (L12Post n0 l c s w) := by
  obtain ⟨jr, hjr, hcr, hth, hkr⟩ := h.run
  have hll : ts.length = l.length := by rw [← hts]; simp
  obtain ⟨g, cur, hsa, -⟩ := hT.1.form (by omega)
  have hsn : s.n = l.length := by rw [hT.1.1]; exact hll
  obtain ⟨sa, sn, sc⟩ := s
  dsimp only at hsa hsn
  subst hsa hsn
  obtain ⟨t, ht, et⟩ := row_get hts hjr
  have l4 : l[jr].slots.length = 4 := node_slots (tab_okT h.tab hjr) (.inr hkr)
  obtain ⟨tc, ta, tcp, tq, rfl⟩ := four_of hT ht (by rw [et]; exact l4)
  dsimp only at et
  have hb := C5.bd h.2
  obtain ⟨ck, cr, ca, cb, cn⟩ := c
  dsimp only at *
  subst hcr
  obtain ⟨ja, rfl⟩ : ∃ ja : Nat, ca = ja := ⟨ca.toNat, by omega⟩
  obtain ⟨jb, rfl⟩ : ∃ jb : Nat, cb = jb := ⟨cb.toNat, by omega⟩
  have hja : ja < 4 := by omega
  have hjb : jb < 4 := by omega
  have l4' : tc.slots.length = 4 := by rw [et]; exact l4
  obtain ⟨r, hr⟩ : ∃ r, rOf l ⟨ck, (jr : Int) + 1, (ja : Int), (jb : Int), cn⟩ = r := ⟨_, rfl⟩
  have hx : tc.slots[ja]? = some r := by
    rw [← hr, et]
    unfold rOf
    dsimp only
    rw [hth, slotAt_of (j := ja) (by omega) rfl]
    exact List.getElem?_eq_getElem (by omega)
  obtain ⟨rt, rv, rr, rw_, rk⟩ := r
  exact l12Do_at n0 ts l g l.length sc ck jr ja jb cn rt rv rr rw_ rk tc ta tcp tq w hT hts hn rfl h hjr hja ht hr hx hjb (tc.slots[jb]'(by omega)) (List.getElem?_eq_getElem _) (by rw [List.getElem?_eq_getElem hjr, et])

theorem do_none' {l : List T8} {c : C5} (h : ¬ OkC l c) {w V : World} (hb : Below w.heap.size w V) : DoPost l c w (.returned (.tuple #[.slice (some ⟨V.heap.size, 0, none⟩) 0 0, .int .i64 (-1)])) (V.alloc (.cells #[] 40)) :=
  ⟨⟨some ⟨V.heap.size, 0, none⟩, 0, 0⟩, [], by rw [callV_no h], (TaW.made V).less hb.size, by rw [callV_no h]; rfl, hb.alloc hb.size _⟩
set_option maxHeartbeats 8000000 in
theorem specDo_any (l : List T8) (s : Sl) (c : C5) (w : World) (ht : HasT w s l) (hz : l.length ≤ 1048576) (hzs : ∀ i (h : i < l.length), l[i].slots.length ≤ 1048576) :
    Calls Tryz.prog 21 #[.slice s.a s.n s.c, .agg #[.int .i64 c.k, .int .i64 c.r, .int .i64 c.a, .int .i64 c.b, .int .i64 c.n]] w (DoPost l c w) := by
  have HK0 := Lib.hid ((Kn.refl (w := w)).new 25 c.cs)
  have HT := Lib.hid ht
  have HZS := Lib.hid hzs
  clear ht hzs
  obtain ⟨b1, hb1⟩ : ∃ b1, tabOk l = b1 := ⟨_, rfl⟩
  have HB1 := Lib.hid hb1
  clear hb1
  go_enter Tryz.func21, Tryz.ntmps21
  go_wp2_with fail
  refine (specTabOk_val' HB1.out _ (HT.out.stay HK0.out.1) hz HZS.out).mono ?_
  rintro e y1 ⟨rfl, hb⟩
  have HK1 := Lib.hid (HK0.out.stay hb)
  clear hb HK0
  cases b1
  · go_wp2
    refine bodyPost_ret (results_tmp2 Tryz.results21 _ _) rfl ?_
    exact do_none' (fun h => by have := h.tab; rw [HB1.out] at this; cases this) HK1.out.1
  obtain ⟨b2, hb2⟩ : ∃ b2, c.ok = b2 := ⟨_, rfl⟩
  have HB2 := Lib.hid hb2
  clear hb2
  have c0 := HK1.out.c (b := w.heap.size) (T := 25) (vs := c.cs) (by simp) 0 _ rfl
  have c1 := HK1.out.c (b := w.heap.size) (T := 25) (vs := c.cs) (by simp) 1 _ rfl
  have c2 := HK1.out.c (b := w.heap.size) (T := 25) (vs := c.cs) (by simp) 2 _ rfl
  have c3 := HK1.out.c (b := w.heap.size) (T := 25) (vs := c.cs) (by simp) 3 _ rfl
  have c4 := HK1.out.c (b := w.heap.size) (T := 25) (vs := c.cs) (by simp) 4 _ rfl
  go_wp2_with fail
  refine (specCallOk_val HB2.out _).mono ?_
  rintro e y2 ⟨rfl, hb⟩
  have HK2 := Lib.hid (HK1.out.stay hb)
  clear hb HK1 c0 c1 c2 c3 c4
  cases b2
  · go_wp2
    refine bodyPost_ret (results_tmp2 Tryz.results21 _ _) rfl ?_
    exact do_none' (fun h => by have := h.2; rw [HB2.out] at this; cases this) HK2.out.1
  obtain ⟨b3, hb3⟩ : ∃ b3, isRun l c.r = b3 := ⟨_, rfl⟩
  have HB3 := Lib.hid hb3
  clear hb3
  have c0 := HK2.out.c (b := w.heap.size) (T := 25) (vs := c.cs) (by simp) 0 _ rfl
  have c1 := HK2.out.c (b := w.heap.size) (T := 25) (vs := c.cs) (by simp) 1 _ rfl
  have c2 := HK2.out.c (b := w.heap.size) (T := 25) (vs := c.cs) (by simp) 2 _ rfl
  have c3 := HK2.out.c (b := w.heap.size) (T := 25) (vs := c.cs) (by simp) 3 _ rfl
  have c4 := HK2.out.c (b := w.heap.size) (T := 25) (vs := c.cs) (by simp) 4 _ rfl
  go_wp2_with fail
  refine (l11Run_val HB3.out _ (HT.out.stay HK2.out.1) hz).mono ?_
  rintro e y3 ⟨rfl, rfl⟩
  cases b3
  · go_wp2
    refine bodyPost_ret (results_tmp2 Tryz.results21 _ _) rfl ?_
    exact do_none' (fun h => by have := h.1; rw [HB3.out, Bool.and_false] at this; cases this) HK2.out.1
  have HO := Lib.hid (show OkC l c from ⟨by rw [HB1.out, HB3.out]; rfl, HB2.out⟩)
  have CPY := Lib.hid (fun V (hV : Below w.heap.size w V) => l3Copy_any l s V (HT.out.stay hV) (tab_len HO.out.tab).1 (tab_small HO.out.tab).1 (tab_small HO.out.tab).2)
  have Z2 := Lib.hid HK2.out.1.size
  have BX := Lib.hid (show ∀ V, Below y2.heap.size y2 V → Box V w.heap.size 25 c.cs from fun V hV => (HK2.out.box (b := w.heap.size) (T := 25) (vs := c.cs) (by simp)).stay hV)
  go_wp2_with fail
  go_region_with (first
    | (go_at_call 39; refine (CPY.out _ (by first | exact HK2.out.1 | exact HK2.out.1.drew)).mono ?_; rintro e y3 ⟨s', ts, rfl, t3, hts, hb⟩; have T3 := Lib.hid (show TaW y2.heap.size y3 s' ts from t3); have HTS := Lib.hid hts; have HB3 := Lib.hid (show Below y2.heap.size y2 y3 from (Below.refl _ _).drew.trans hb); have n3 : y2.heap.size ≤ y3.heap.size := HB3.out.size; have e0 := (BX.out _ HB3.out).cell 0 _ rfl; have e1 := (BX.out _ HB3.out).cell 1 _ rfl; have e2 := (BX.out _ HB3.out).cell 2 _ rfl; have e3 := (BX.out _ HB3.out).cell 3 _ rfl; have e4 := (BX.out _ HB3.out).cell 4 _ rfl; clear t3 hts hb)
    | (go_at_call 38; refine (l12Do_any y2.heap.size s' ts l c _ (by first | exact T3.out | exact T3.out.drew) HTS.out n3 HO.out).mono ?_; rintro e y4 ⟨ts', rfl, t4, hm, hb⟩; have FIN := Lib.hid (show DoPost l c w (.returned (.tuple #[.slice s'.a s'.n s'.c, .int .i64 (doV l c).2])) y4 from ⟨s', ts', by rw [callV_ok HO.out], t4.less Z2.out, by rw [callV_ok HO.out]; exact hm, (HK2.out.1.trans (HB3.out.mono Z2.out)).trans (hb.mono Z2.out)⟩); clear t4 hm hb))
  all_goals
    go_wp2
    refine bodyPost_ret (results_tmp2 Tryz.results21 _ _) rfl ?_
    exact FIN.out
theorem specDo_val {l : List T8} {s : Sl} {c : C5} {x : List T8} {a : Int} (hv : callV l c = (x, a)) (w : World) (ht : HasT w s l) (hz : l.length ≤ 1048576) (hzs : ∀ i (h : i < l.length), l[i].slots.length ≤ 1048576) :
    Calls Tryz.prog 21 #[.slice s.a s.n s.c, .agg #[.int .i64 c.k, .int .i64 c.r, .int .i64 c.a, .int .i64 c.b, .int .i64 c.n]] w (fun e w' => ∃ (s' : Sl) (ts : List Tr), e = .returned (.tuple #[.slice s'.a s'.n s'.c, .int .i64 a]) ∧ TaW w.heap.size w' s' ts ∧ ts.map (·.1) = x ∧ Below w.heap.size w w') :=
  (specDo_any l s c w ht hz hzs).mono fun e w' h => by
    obtain ⟨s', ts, h1, h2, h3, h4⟩ := h
    rw [hv] at h1 h3
    exact ⟨s', ts, h1, h2, h3, h4⟩
end Go.Proofs.YtbopficnajdaoaaGreatDoor
