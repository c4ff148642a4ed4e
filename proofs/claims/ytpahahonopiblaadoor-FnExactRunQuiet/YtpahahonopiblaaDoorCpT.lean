/-
  The laws' copy of a thing.
-/
import Derived.Test.YtpahahonopiblaaDoorCp
import Derived.Test.YtpahahonopiblaaDoorToLab
namespace Go.Proofs.YtpahahonopiblaaDoor
open Go.RowKit
set_option linter.unusedVariables false

/-- The three blocks of laws.toThing. -/
theorem tt_start (w : World) (v1 v2 v3 : Array Value) (T1 T2 : TypeId) : Box (((w.alloc (.cells v1 T1)).alloc (.cells v2 T2)).alloc (.cells v3 T2)) w.heap.size T1 v1 ∧ Box (((w.alloc (.cells v1 T1)).alloc (.cells v2 T2)).alloc (.cells v3 T2)) (w.heap.size + 1) T2 v2 ∧ Box (((w.alloc (.cells v1 T1)).alloc (.cells v2 T2)).alloc (.cells v3 T2)) (w.heap.size + 2) T2 v3 ∧ Below w.heap.size w (((w.alloc (.cells v1 T1)).alloc (.cells v2 T2)).alloc (.cells v3 T2)) := by
  have h1 : (w.alloc (.cells v1 T1)).heap.size = w.heap.size + 1 := by simp
  have h2 : ((w.alloc (.cells v1 T1)).alloc (.cells v2 T2)).heap.size = w.heap.size + 2 := by simp
  refine ⟨((Box.fresh w T1 v1).past _).past _, ?_, ?_, (((Below.refl _ _).alloc (Nat.le_refl _) _).alloc (by simp) _).alloc (by simp; omega) _⟩
  · have := (Box.fresh (w.alloc (.cells v1 T1)) T2 v2).past (.cells v3 T2)
    rwa [h1] at this
  · have := Box.fresh ((w.alloc (.cells v1 T1)).alloc (.cells v2 T2)) T2 v3
    rwa [h2] at this

set_option maxRecDepth 100000 in
set_option maxHeartbeats 2000000 in
theorem toThing_any (x : T8) (s q : Sl) (w : World) (hs : HasR w s x.slots) (hq : HasQ w q x.queue) (hz : x.slots.length ≤ 1048576) (hzq : x.queue.length ≤ 1048576) :
    Calls Tryd.prog 47 #[x.val s q] w fun e w' => (∃ s1 q1 : Sl, e = .returned (x.val s1 q1) ∧ HasR w' s1 x.slots ∧ HasQ w' q1 x.queue ∧ (∀ b o, s1.a = some ⟨b, o, none⟩ → w.heap.size ≤ b) ∧ ∀ b o, q1.a = some ⟨b, o, none⟩ → w.heap.size ≤ b) ∧ Below w.heap.size w w' := by
  obtain ⟨k0, k1, k2, B0⟩ := tt_start w (x.cs s q) #[.int .i64 0, .int .i64 0, .int .i64 0, .int .i64 0, .int .i64 0, .slice none 0 0, .slice none 0 0, .int .i64 0] #[.int .i64 x.kind, .int .i64 0, .int .i64 0, .int .i64 0, .int .i64 0, .slice none 0 0, .slice none 0 0, .int .i64 0] 72 37
  have HS := Lib.hid hs
  have HQ := Lib.hid hq
  have HZ := Lib.hid hz
  have HZQ := Lib.hid hzq
  clear hs hq hz hzq
  go_enter Tryd.func47, Tryd.ntmps47
  go_wp2_with fail
  refine (toLabel_any _ _ _).mono ?_
  rintro e y1 ⟨rfl, hb⟩
  have m0 := k0.stay hb
  have m1 := k1.stay hb
  have m2 := k2.stay hb
  have B1 := B0.trans (hb.mono B0.size)
  clear hb k0 k1 k2 B0
  have c0 := m0.cell 0 _ rfl
  have c1 := m0.cell 1 _ rfl
  have c2 := m0.cell 2 _ rfl
  have c3 := m0.cell 3 _ rfl
  have c4 := m0.cell 4 _ rfl
  have c5 := m0.cell 5 _ rfl
  have c6 := m0.cell 6 _ rfl
  have c7 := m0.cell 7 _ rfl
  have d0 := m2.cell 0 _ rfl
  have df0 := m2.thaw 0
  have d1 := m2.cell 1 _ rfl
  have df1 := m2.thaw 1
  have d2 := m2.cell 2 _ rfl
  have df2 := m2.thaw 2
  have d3 := m2.cell 3 _ rfl
  have df3 := m2.thaw 3
  have d4 := m2.cell 4 _ rfl
  have df4 := m2.thaw 4
  have d5 := m2.cell 5 _ rfl
  have df5 := m2.thaw 5
  have d6 := m2.cell 6 _ rfl
  have df6 := m2.thaw 6
  have d7 := m2.cell 7 _ rfl
  have df7 := m2.thaw 7
  have p2 := ((((m2.put 1 (.int .i64 x.sec)).put 2 (.int .i64 x.vou)).put 3 (.int .i64 x.vers)).put 4 (.int .i64 x.num))
  have p0 := ((((m0.other (p := ⟨w.heap.size + 2, 1, none⟩) (by dsimp only; omega) (.int .i64 x.sec)).other (p := ⟨w.heap.size + 2, 2, none⟩) (by dsimp only; omega) (.int .i64 x.vou)).other (p := ⟨w.heap.size + 2, 3, none⟩) (by dsimp only; omega) (.int .i64 x.vers)).other (p := ⟨w.heap.size + 2, 4, none⟩) (by dsimp only; omega) (.int .i64 x.num))
  have p1 := ((((m1.other (p := ⟨w.heap.size + 2, 1, none⟩) (by dsimp only; omega) (.int .i64 x.sec)).other (p := ⟨w.heap.size + 2, 2, none⟩) (by dsimp only; omega) (.int .i64 x.vou)).other (p := ⟨w.heap.size + 2, 3, none⟩) (by dsimp only; omega) (.int .i64 x.vers)).other (p := ⟨w.heap.size + 2, 4, none⟩) (by dsimp only; omega) (.int .i64 x.num))
  have B2 : Below w.heap.size w ((((y1.setCell ⟨w.heap.size + 2, 1, none⟩ (.int .i64 x.sec)).setCell ⟨w.heap.size + 2, 2, none⟩ (.int .i64 x.vou)).setCell ⟨w.heap.size + 2, 3, none⟩ (.int .i64 x.vers)).setCell ⟨w.heap.size + 2, 4, none⟩ (.int .i64 x.num)) := (((B1.setCell (by dsimp only; omega) _).setCell (by dsimp only; omega) _).setCell (by dsimp only; omega) _).setCell (by dsimp only; omega) _
  have P2 := Lib.hid p2
  have P0 := Lib.hid p0
  have P1 := Lib.hid p1
  have HB2 := Lib.hid B2
  clear p0 p1 p2 B2 m0 m1 m2 B1
  go_wp2_with fail
  refine (toRightS_any x.slots s _ (HS.out.stay HB2.out) HZ.out).mono ?_
  rintro e y2 ⟨⟨s1, rfl, hr1, a1⟩, hb⟩
  have m0 := P0.out.stay hb
  have m1 := P1.out.stay hb
  have m2 : Box y2 (w.heap.size + 2) 37 #[.int .i64 x.kind, .int .i64 x.sec, .int .i64 x.vou, .int .i64 x.vers, .int .i64 x.num, .slice none 0 0, .slice none 0 0, .int .i64 0] := P2.out.stay hb
  have P2a := P2
  have B1 := HB2.out.trans (hb.mono HB2.out.size)
  clear hb P0 P1 P2 HB2 c0 c1 c2 c3 c4 c5 c6 c7 d0 d1 d2 d3 d4 d5 d6 d7 df0 df1 df2 df3 df4 df5 df6 df7
  have c0 := m0.cell 0 _ rfl
  have c1 := m0.cell 1 _ rfl
  have c2 := m0.cell 2 _ rfl
  have c3 := m0.cell 3 _ rfl
  have c4 := m0.cell 4 _ rfl
  have c5 := m0.cell 5 _ rfl
  have c6 := m0.cell 6 _ rfl
  have c7 := m0.cell 7 _ rfl
  have d0 := m2.cell 0 _ rfl
  have df0 := m2.thaw 0
  have d1 := m2.cell 1 _ rfl
  have df1 := m2.thaw 1
  have d2 := m2.cell 2 _ rfl
  have df2 := m2.thaw 2
  have d3 := m2.cell 3 _ rfl
  have df3 := m2.thaw 3
  have d4 := m2.cell 4 _ rfl
  have df4 := m2.thaw 4
  have d5 := m2.cell 5 _ rfl
  have df5 := m2.thaw 5
  have d6 := m2.cell 6 _ rfl
  have df6 := m2.thaw 6
  have d7 := m2.cell 7 _ rfl
  have df7 := m2.thaw 7
  have P2 := Lib.hid (m2.put 5 (.slice s1.a s1.n s1.c))
  have P0 := Lib.hid (m0.other (p := ⟨w.heap.size + 2, 5, none⟩) (by dsimp only; omega) (.slice s1.a s1.n s1.c))
  have P1 := Lib.hid (m1.other (p := ⟨w.heap.size + 2, 5, none⟩) (by dsimp only; omega) (.slice s1.a s1.n s1.c))
  have HB2 := Lib.hid (B1.setCell (p := ⟨w.heap.size + 2, 5, none⟩) (by dsimp only; omega) (.slice s1.a s1.n s1.c))
  have HR1 := Lib.hid hr1
  have N1 : ∀ b o, s1.a = some ⟨b, o, none⟩ → w.heap.size + 2 < b := by
    have hlt := P2a.out.lt
    intro b o e
    rw [a1] at e
    simp at e
    simp at hlt
    omega
  have HN1 := Lib.hid N1
  clear a1 N1 P2a
  clear m0 m1 m2 B1 hr1
  go_wp2_with fail
  refine (toIntS_any x.queue q _ (HQ.out.stay HB2.out) HZQ.out).mono ?_
  rintro e y3 ⟨⟨q1, rfl, hq1, a2⟩, hb⟩
  have m0 := P0.out.stay hb
  have m1 := P1.out.stay hb
  have m2 : Box y3 (w.heap.size + 2) 37 #[.int .i64 x.kind, .int .i64 x.sec, .int .i64 x.vou, .int .i64 x.vers, .int .i64 x.num, .slice s1.a s1.n s1.c, .slice none 0 0, .int .i64 0] := P2.out.stay hb
  have B1 := HB2.out.trans (hb.mono HB2.out.size)
  have N2 : ∀ b o, q1.a = some ⟨b, o, none⟩ → w.heap.size + 2 < b := by
    have hlt := P2.out.lt
    intro b o e
    rw [a2] at e
    simp at e
    simp at hlt
    omega
  have HN2 := Lib.hid N2
  have HR2 := Lib.hid ((HR1.out.other (p := ⟨w.heap.size + 2, 5, none⟩) (fun b o e => by have := HN1.out b o e; dsimp only; omega) (.slice s1.a s1.n s1.c)).stay hb)
  have HQ1 := Lib.hid hq1
  clear a2 N2 hq1
  clear hb P0 P1 P2 HB2 c0 c1 c2 c3 c4 c5 c6 c7 d0 d1 d2 d3 d4 d5 d6 d7 df0 df1 df2 df3 df4 df5 df6 df7
  have c0 := m0.cell 0 _ rfl
  have c1 := m0.cell 1 _ rfl
  have c2 := m0.cell 2 _ rfl
  have c3 := m0.cell 3 _ rfl
  have c4 := m0.cell 4 _ rfl
  have c5 := m0.cell 5 _ rfl
  have c6 := m0.cell 6 _ rfl
  have c7 := m0.cell 7 _ rfl
  have d0 := m2.cell 0 _ rfl
  have df0 := m2.thaw 0
  have d1 := m2.cell 1 _ rfl
  have df1 := m2.thaw 1
  have d2 := m2.cell 2 _ rfl
  have df2 := m2.thaw 2
  have d3 := m2.cell 3 _ rfl
  have df3 := m2.thaw 3
  have d4 := m2.cell 4 _ rfl
  have df4 := m2.thaw 4
  have d5 := m2.cell 5 _ rfl
  have df5 := m2.thaw 5
  have d6 := m2.cell 6 _ rfl
  have df6 := m2.thaw 6
  have d7 := m2.cell 7 _ rfl
  have df7 := m2.thaw 7
  have g0 := m1.cell 0 _ rfl
  have gf0 := m1.thaw 0
  have g1 := m1.cell 1 _ rfl
  have gf1 := m1.thaw 1
  have g2 := m1.cell 2 _ rfl
  have gf2 := m1.thaw 2
  have g3 := m1.cell 3 _ rfl
  have gf3 := m1.thaw 3
  have g4 := m1.cell 4 _ rfl
  have gf4 := m1.thaw 4
  have g5 := m1.cell 5 _ rfl
  have gf5 := m1.thaw 5
  have g6 := m1.cell 6 _ rfl
  have gf6 := m1.thaw 6
  have g7 := m1.cell 7 _ rfl
  have gf7 := m1.thaw 7
  have HB4 := Lib.hid B1
  clear m0 m1 m2 B1
  go_wp2
  refine bodyPost_ret (v := x.val s1 q1) (by simp [results, Tryd.results47, go_sem, *]) rfl ⟨⟨s1, q1, rfl, ?_, ?_, fun b o e => by have := HN1.out b o e; omega, fun b o e => by have := HN2.out b o e; omega⟩, ?_⟩
  · iterate 10 (with_reducible refine HasR.other ?_ (fun b o e => by have := HN1.out b o e; dsimp only; omega) _)
    exact HR2.out
  · iterate 10 (with_reducible refine HasQ.other ?_ (fun b o e => by have := HN2.out b o e; dsimp only; omega) _)
    exact HQ1.out
  · iterate 10 (with_reducible refine Below.setCell ?_ (by dsimp only; omega) _)
    exact HB4.out
end Go.Proofs.YtpahahonopiblaaDoor
