/-
  Drawn pairs of rights: whatever the code, two rights come, and nothing that was there has turned.
-/
import Derived.Test.YthbeiigiffnhjaaDrawRA
import Derived.Test.YthbeiigiffnhjaaRigT
namespace Go.Proofs.Ythbeiigiffnhjaa
open Go.RowKit
set_option linter.unusedVariables false

def PairRPost (w : World) (e : Ending) (w' : World) : Prop := ∃ (t v : Int) (r wr k : Bool) (t2 v2 : Int) (r2 wr2 k2 : Bool), e = .returned (.tuple #[rgt t v r wr k, rgt t2 v2 r2 wr2 k2]) ∧ Below w.heap.size w w'

set_option maxHeartbeats 8000000 in
theorem drawRIn_any (a : Option Addr) (len cap : Nat) (zs : List Int) (w : World) (h : IsRow .u8 w a len cap zs) :
    Calls Try.prog 17 #[.slice a len cap] w (PairRPost w) := by
  have h0 := (h.below ((Below.refl _ _).alloc (Nat.le_refl _) (.cells #[.int .i64 0, .int .i64 0, .bool false, .bool false, .bool false] 24)))
  have H := Lib.hid (h0.below ((Below.refl _ _).alloc (Nat.le_refl _) (.cells #[.int .i64 0, .int .i64 0, .bool false, .bool false, .bool false] 24)))
  clear h h0
  go_enter Try.func17, Try.ntmps17
  go_wp2_with fail
  refine (l6Open_any a len cap zs _ H.out).mono ?_
  rintro e w1 ⟨rfl, rfl⟩
  have hR0 := rd_open H.out
  rw [show ((w.alloc (.cells #[.int .i64 0, .int .i64 0, .bool false, .bool false, .bool false] 24)).alloc (.cells #[.int .i64 0, .int .i64 0, .bool false, .bool false, .bool false] 24)).heap.size = w.heap.size + 1 + 1 by simp] at hR0
  have R0 := Lib.hid hR0
  clear hR0
  go_wp2_with fail
  refine (l71Right_any _ a _ cap zs 0 _ R0.out (by omega)).mono ?_
  rintro e w2 ⟨t, v, rd, wr, k, t0, t1, v0, v1, rfl, p1, hp1, R1, G1⟩
  have HR1 := Lib.hid (R1.past (.cells #[.int .i64 t, .int .i64 v, .bool rd, .bool wr, .bool k] 24))
  have z2 := G1.size
  simp at z2
  clear R1 R0
  go_wp2_with fail
  refine (l71Right_any _ a _ cap zs p1 _ HR1.out (by omega)).mono ?_
  rintro e w3 ⟨t2, v2, rd2, wr2, k2, t20, t21, v20, v21, rfl, p2, hp2, R2, G2⟩
  have HR2 := Lib.hid (R2.past (.cells #[.int .i64 t2, .int .i64 v2, .bool rd2, .bool wr2, .bool k2] 24))
  have z3 := G2.size
  simp at z3
  clear R2 HR1
  go_wp2_with fail
  refine (pick_any _ a _ cap zs p2 3 _ HR2.out (by omega) (by omega) (by omega)).mono ?_
  rintro e w4 ⟨z, z0, z1, rfl, R3, G3, s3⟩
  obtain ⟨k1, k2', hw4, hz4⟩ := res2 (((G1.alloc (.cells #[.int .i64 t, .int .i64 v, .bool rd, .bool wr, .bool k] 24)).trans G2).alloc (.cells #[.int .i64 t2, .int .i64 v2, .bool rd2, .bool wr2, .bool k2] 24) |>.trans G3)
  have x1 := (((Box.fresh w2 24 #[.int .i64 t, .int .i64 v, .bool rd, .bool wr, .bool k]).grew G2 (by omega)).past (.cells #[.int .i64 t2, .int .i64 v2, .bool rd2, .bool wr2, .bool k2] 24)).grew G3 (by omega)
  have x2 := (Box.fresh w3 24 #[.int .i64 t2, .int .i64 v2, .bool rd2, .bool wr2, .bool k2]).grew G3 (by omega)
  have n1 : w2.heap.size ≠ w.heap.size := by omega
  have n2 : w2.heap.size ≠ w.heap.size + 1 := by omega
  have n3 : w3.heap.size ≠ w.heap.size := by omega
  have n4 : w3.heap.size ≠ w.heap.size + 1 := by omega
  have n5 : w2.heap.size ≠ w3.heap.size := by omega
  have n6 : w3.heap.size ≠ w2.heap.size := by omega
  have HR3 := Lib.hid R3
  clear G1 G2 G3 R3 HR2 H s3
  rcases (by omega : z = 0 ∨ z = 1 ∨ z = 2) with rfl | rfl | rfl
  · clear z0 z1
    have Rx := HR3.out.drew
    have hB := hw4.drew
    have kk1 := k1.drew
    have kk2 := k2'.drew
    have x2 := x2.drew
    have FX0 : ∀ w', Below w.heap.size w w' → Box w' w3.heap.size 24 #[.int .i64 t2, .int .i64 v2, .bool rd2, .bool wr2, .bool k2] → Below w.heap.size w w' ∧ w'.cell? ⟨w3.heap.size, 0, none⟩ = some (.int .i64 t2) ∧ w'.cell? ⟨w3.heap.size, 1, none⟩ = some (.int .i64 v2) ∧ w'.cell? ⟨w3.heap.size, 2, none⟩ = some (.bool rd2) ∧ w'.cell? ⟨w3.heap.size, 3, none⟩ = some (.bool wr2) ∧ w'.cell? ⟨w3.heap.size, 4, none⟩ = some (.bool k2) := fun w' h x => And.intro h (And.intro (x.cell 0 _ rfl) (And.intro (x.cell 1 _ rfl) (And.intro (x.cell 2 _ rfl) (And.intro (x.cell 3 _ rfl) (x.cell 4 _ rfl)))))
    have FX := Lib.hid FX0
    clear FX0
    have g0 := x2.cell 0 _ rfl
    clear x1 k1 k2' HR3
    go_wp2_with fail
    go_region_held3 (fun w' => Below w.heap.size w w' ∧ w'.cell? ⟨w3.heap.size, 0, none⟩ = some (.int .i64 t2) ∧ w'.cell? ⟨w3.heap.size, 1, none⟩ = some (.int .i64 v2) ∧ w'.cell? ⟨w3.heap.size, 2, none⟩ = some (.bool rd2) ∧ w'.cell? ⟨w3.heap.size, 3, none⟩ = some (.bool wr2) ∧ w'.cell? ⟨w3.heap.size, 4, none⟩ = some (.bool k2))
      (first
        | with_reducible exact FX.out _ hB x2
        | with_reducible exact FX.out _ (Below.setCell (Below.setCell (Below.setCell (Below.setCell (Below.setCell hB (p := ⟨w.heap.size, 0, none⟩) (by show w.heap.size ≤ w.heap.size; omega) _) (p := ⟨w.heap.size, 1, none⟩) (by show w.heap.size ≤ w.heap.size; omega) _) (p := ⟨w.heap.size, 2, none⟩) (by show w.heap.size ≤ w.heap.size; omega) _) (p := ⟨w.heap.size, 3, none⟩) (by show w.heap.size ≤ w.heap.size; omega) _) (p := ⟨w.heap.size, 4, none⟩) (by show w.heap.size ≤ w.heap.size; omega) _) (Box.other (Box.other (Box.other (Box.other (Box.other x2 (p := ⟨w.heap.size, 0, none⟩) n3 _) (p := ⟨w.heap.size, 1, none⟩) n3 _) (p := ⟨w.heap.size, 2, none⟩) n3 _) (p := ⟨w.heap.size, 3, none⟩) n3 _) (p := ⟨w.heap.size, 4, none⟩) n3 _)
        | with_reducible exact FX.out _ (Below.setCell (Below.setCell (Below.setCell (Below.setCell (Below.setCell (Below.setCell (Below.setCell (Below.setCell (Below.setCell (Below.setCell hB (p := ⟨w.heap.size, 0, none⟩) (by show w.heap.size ≤ w.heap.size; omega) _) (p := ⟨w.heap.size, 1, none⟩) (by show w.heap.size ≤ w.heap.size; omega) _) (p := ⟨w.heap.size, 2, none⟩) (by show w.heap.size ≤ w.heap.size; omega) _) (p := ⟨w.heap.size, 3, none⟩) (by show w.heap.size ≤ w.heap.size; omega) _) (p := ⟨w.heap.size, 4, none⟩) (by show w.heap.size ≤ w.heap.size; omega) _) (p := ⟨w.heap.size + 1, 0, none⟩) (by show w.heap.size ≤ w.heap.size + 1; omega) _) (p := ⟨w.heap.size + 1, 1, none⟩) (by show w.heap.size ≤ w.heap.size + 1; omega) _) (p := ⟨w.heap.size + 1, 2, none⟩) (by show w.heap.size ≤ w.heap.size + 1; omega) _) (p := ⟨w.heap.size + 1, 3, none⟩) (by show w.heap.size ≤ w.heap.size + 1; omega) _) (p := ⟨w.heap.size + 1, 4, none⟩) (by show w.heap.size ≤ w.heap.size + 1; omega) _) (Box.other (Box.other (Box.other (Box.other (Box.other (Box.other (Box.other (Box.other (Box.other (Box.other x2 (p := ⟨w.heap.size, 0, none⟩) n3 _) (p := ⟨w.heap.size, 1, none⟩) n3 _) (p := ⟨w.heap.size, 2, none⟩) n3 _) (p := ⟨w.heap.size, 3, none⟩) n3 _) (p := ⟨w.heap.size, 4, none⟩) n3 _) (p := ⟨w.heap.size + 1, 0, none⟩) n4 _) (p := ⟨w.heap.size + 1, 1, none⟩) n4 _) (p := ⟨w.heap.size + 1, 2, none⟩) n4 _) (p := ⟨w.heap.size + 1, 3, none⟩) n4 _) (p := ⟨w.heap.size + 1, 4, none⟩) n4 _))
      (first | (go_at_call 30; refine (pick_any _ a _ cap zs _ 2 _ Rx (by omega) (by omega) (by omega)).mono ?_; rintro e y ⟨m, m0, m1, rfl, Rx, g, sx⟩; have hB := hB.trans (g.below (by omega) hB.size); have kk1 := kk1.grew g (by omega); have kk2 := kk2.grew g (by omega); have x2 := x2.grew g (by omega); clear sx) | (go_at_call 22; refine (specLess_any _ _ _ _ _ _ _ _ _).mono ?_; rintro e y ⟨rfl, hb⟩; have hB := onB hB (Nat.le_refl _) hb; have kk1 := kk1.stay hb; have kk2 := kk2.stay hb; have x2 := x2.stay hb; have c0 := kk1.cell 0 _ rfl; have cf0 := kk1.thaw 0; have d0 := kk2.cell 0 _ rfl; have df0 := kk2.thaw 0; have c1 := kk1.cell 1 _ rfl; have cf1 := kk1.thaw 1; have d1 := kk2.cell 1 _ rfl; have df1 := kk2.thaw 1; have c2 := kk1.cell 2 _ rfl; have cf2 := kk1.thaw 2; have d2 := kk2.cell 2 _ rfl; have df2 := kk2.thaw 2; have c3 := kk1.cell 3 _ rfl; have cf3 := kk1.thaw 3; have d3 := kk2.cell 3 _ rfl; have df3 := kk2.thaw 3; have c4 := kk1.cell 4 _ rfl; have cf4 := kk1.thaw 4; have d4 := kk2.cell 4 _ rfl; have df4 := kk2.thaw 4))
    go_wp2
    refine bodyPost_ret (v := .tuple #[lessV t2 v2 rd2 wr2 k2 _ _ _, rgt t2 v2 rd2 wr2 k2]) (by simp [results, Try.results17, go_sem, *]; exact ⟨rfl, rfl, rfl⟩) rfl ⟨_, _, _, _, _, _, _, _, _, _, rfl, ?_⟩
    exact (‹Below w.heap.size w (World.setCell _ _ _) ∧ _›).1
  · clear z0 z1
    have c0 := k1.cell 0 _ rfl
    have cf0 := k1.thaw 0
    have c1 := k1.cell 1 _ rfl
    have cf1 := k1.thaw 1
    have c2 := k1.cell 2 _ rfl
    have cf2 := k1.thaw 2
    have c3 := k1.cell 3 _ rfl
    have cf3 := k1.thaw 3
    have c4 := k1.cell 4 _ rfl
    have cf4 := k1.thaw 4
    have d0 := k2'.cell 0 _ rfl
    have df0 := k2'.thaw 0
    have d1 := k2'.cell 1 _ rfl
    have df1 := k2'.thaw 1
    have d2 := k2'.cell 2 _ rfl
    have df2 := k2'.thaw 2
    have d3 := k2'.cell 3 _ rfl
    have df3 := k2'.thaw 3
    have d4 := k2'.cell 4 _ rfl
    have df4 := k2'.thaw 4
    have e0 := x1.cell 0 _ rfl
    have ef0 := x1.thaw 0
    have e1 := x1.cell 1 _ rfl
    have ef1 := x1.thaw 1
    have e2 := x1.cell 2 _ rfl
    have ef2 := x1.thaw 2
    have e3 := x1.cell 3 _ rfl
    have ef3 := x1.thaw 3
    have e4 := x1.cell 4 _ rfl
    have ef4 := x1.thaw 4
    have g0 := x2.cell 0 _ rfl
    have g1 := x2.cell 1 _ rfl
    have g2 := x2.cell 2 _ rfl
    have g3 := x2.cell 3 _ rfl
    have g4 := x2.cell 4 _ rfl
    clear k1 k2' x1 x2
    go_wp2_with fail
    go_region
    all_goals
      go_wp2
      refine bodyPost_ret (v := .tuple #[rgt t2 v2 rd wr k, rgt t2 v2 rd2 wr2 k2]) (by simp [results, Try.results17, go_sem, *]) rfl ⟨_, _, _, _, _, _, _, _, _, _, rfl, ?_⟩
      iterate 12 (try with_reducible refine Below.setCell ?_ (by dsimp only; omega) _)
      try with_reducible refine Below.drew ?_
      iterate 12 (try with_reducible refine Below.setCell ?_ (by dsimp only; omega) _)
      exact hw4
  · clear z0 z1
    have c0 := k1.cell 0 _ rfl
    have cf0 := k1.thaw 0
    have c1 := k1.cell 1 _ rfl
    have cf1 := k1.thaw 1
    have c2 := k1.cell 2 _ rfl
    have cf2 := k1.thaw 2
    have c3 := k1.cell 3 _ rfl
    have cf3 := k1.thaw 3
    have c4 := k1.cell 4 _ rfl
    have cf4 := k1.thaw 4
    have d0 := k2'.cell 0 _ rfl
    have df0 := k2'.thaw 0
    have d1 := k2'.cell 1 _ rfl
    have df1 := k2'.thaw 1
    have d2 := k2'.cell 2 _ rfl
    have df2 := k2'.thaw 2
    have d3 := k2'.cell 3 _ rfl
    have df3 := k2'.thaw 3
    have d4 := k2'.cell 4 _ rfl
    have df4 := k2'.thaw 4
    have e0 := x1.cell 0 _ rfl
    have e1 := x1.cell 1 _ rfl
    have e2 := x1.cell 2 _ rfl
    have e3 := x1.cell 3 _ rfl
    have e4 := x1.cell 4 _ rfl
    have g0 := x2.cell 0 _ rfl
    have g1 := x2.cell 1 _ rfl
    have g2 := x2.cell 2 _ rfl
    have g3 := x2.cell 3 _ rfl
    have g4 := x2.cell 4 _ rfl
    clear k1 k2' x1 x2
    go_wp2_with fail
    go_region
    all_goals
      go_wp2
      refine bodyPost_ret (v := .tuple #[rgt t v rd wr k, rgt t2 v2 rd2 wr2 k2]) (by simp [results, Try.results17, go_sem, *]) rfl ⟨_, _, _, _, _, _, _, _, _, _, rfl, ?_⟩
      iterate 12 (try with_reducible refine Below.setCell ?_ (by dsimp only; omega) _)
      try with_reducible refine Below.drew ?_
      iterate 12 (try with_reducible refine Below.setCell ?_ (by dsimp only; omega) _)
      exact hw4
end Go.Proofs.Ythbeiigiffnhjaa
