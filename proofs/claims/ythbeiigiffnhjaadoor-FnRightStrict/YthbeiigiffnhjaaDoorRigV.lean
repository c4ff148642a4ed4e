/-
  Reading a right: what spec.RightRead returns.
-/
import Derived.Test.YthbeiigiffnhjaaDoorRigU
namespace Go.Proofs.YthbeiigiffnhjaaDoor
open Go.RowKit
set_option linter.unusedVariables false

/-- The text of the right to nothing. -/
abbrev dash : ByteArray := ⟨#[45]⟩

set_option maxHeartbeats 1000000 in
theorem specRRead_dash (t : ByteArray) (h : (t.toList == [45]) = true) (w : World) :
    Calls Tryd.prog 12 #[.string t] w fun e w' => e = .returned (.tuple #[rgt 0 0 false false false, .bool true]) ∧ Below w.heap.size w w' := by
  have K0 := (Kn.refl (w := w)).new 24 (rgtC 0 0 false false false)
  go_enter Tryd.func12, Tryd.ntmps12
  go_wp2
  refine bodyPost_ret (v := .tuple #[rgt 0 0 false false false, .bool true]) (by simp [results, Tryd.results12, go_sem, *]) rfl ⟨rfl, ?_⟩
  exact (Below.refl _ _).alloc (Nat.le_refl _) _

set_option maxHeartbeats 1000000 in
theorem specRRead_len (t : ByteArray) (hd : (t.toList == [45]) = false) (h : ((t.size : Int) == 6) = false) (w : World) :
    Calls Tryd.prog 12 #[.string t] w fun e w' => e = .returned (.tuple #[rgt 0 0 false false false, .bool false]) ∧ Below w.heap.size w w' := by
  go_enter Tryd.func12, Tryd.ntmps12
  go_wp2
  refine bodyPost_ret (v := .tuple #[rgt 0 0 false false false, .bool false]) (by simp [results, Tryd.results12, go_sem, *]) rfl ⟨rfl, ?_⟩
  exact (Below.refl _ _).alloc (Nat.le_refl _) _

set_option maxHeartbeats 2000000 in
/-- What the model reads out of six letters. -/
theorem specRRead_six (t : ByteArray) (hd : (t.toList == [45]) = false) (h0 : 0 < t.size) (h2 : 2 < t.size) (h3 : 3 < t.size) (h4 : 4 < t.size) (h5 : 5 < t.size) (h6 : ((t.size : Int) == 6) = true) (w : World) (g : Bool) (hg : ((txtR ((t[0].toNat : Int) - 48) ((t[2].toNat : Int) - 48) ((t[3].toNat : Int) == 114) ((t[4].toNat : Int) == 119) ((t[5].toNat : Int) == 107)).toList == t.toList) = g) :
    Calls Tryd.prog 12 #[.string t] w fun e w' => e = .returned (.tuple #[if g then rgt ((t[0].toNat : Int) - 48) ((t[2].toNat : Int) - 48) ((t[3].toNat : Int) == 114) ((t[4].toNat : Int) == 119) ((t[5].toNat : Int) == 107) else rgt 0 0 false false false, .bool g]) ∧ Below w.heap.size w w' := by
  have HG := Lib.hid hg
  have i0 : (0 : Int) < (t.size : Int) := by omega
  have i2 : (2 : Int) < (t.size : Int) := by omega
  have i3 : (3 : Int) < (t.size : Int) := by omega
  have i4 : (4 : Int) < (t.size : Int) := by omega
  have i5 : (5 : Int) < (t.size : Int) := by omega
  clear hg
  have K1 := (Kn.refl (w := w)).new 24 (rgtC 0 0 false false false)
  go_enter Tryd.func12, Tryd.ntmps12
  go_wp2
  go_region
  go_wp2_with fail
  rw [byte48, byte48]
  generalize hp : ((t[0].toNat : Int) - 48) = p at *
  generalize hq : ((t[2].toNat : Int) - 48) = q at *
  generalize ha : ((t[3].toNat : Int) == 114) = a at *
  generalize hb : ((t[4].toNat : Int) == 119) = b at *
  generalize hc : ((t[5].toNat : Int) == 107) = c at *
  have HP := Lib.hid hp
  have HQ := Lib.hid hq
  have HA := Lib.hid ha
  have HB := Lib.hid hb
  have HC := Lib.hid hc
  clear hp hq ha hb hc
  refine (specRText_any _ _ _ _ _ _).mono ?_
  rintro e y ⟨rfl, hy⟩
  have K0 := (((Kn.refl (w := w)).new 24 (rgtC 0 0 false false false)).new 24 (rgtC p q a b c)).drew.stay hy
  rw [show (w.alloc (.cells (rgtC 0 0 false false false) 24)).heap.size = w.heap.size + 1 by simp] at K0
  have c0 := K0.c (b := w.heap.size + 1) (T := 24) (vs := rgtC p q a b c) (by simp) 0 _ rfl
  have c1 := K0.c (b := w.heap.size + 1) (T := 24) (vs := rgtC p q a b c) (by simp) 1 _ rfl
  have c2 := K0.c (b := w.heap.size + 1) (T := 24) (vs := rgtC p q a b c) (by simp) 2 _ rfl
  have c3 := K0.c (b := w.heap.size + 1) (T := 24) (vs := rgtC p q a b c) (by simp) 3 _ rfl
  have c4 := K0.c (b := w.heap.size + 1) (T := 24) (vs := rgtC p q a b c) (by simp) 4 _ rfl
  have d0 := K0.c (b := w.heap.size) (T := 24) (vs := rgtC 0 0 false false false) (by simp) 0 _ rfl
  have df0 := K0.f (b := w.heap.size) (T := 24) (vs := rgtC 0 0 false false false) (by simp) 0
  have d1 := K0.c (b := w.heap.size) (T := 24) (vs := rgtC 0 0 false false false) (by simp) 1 _ rfl
  have df1 := K0.f (b := w.heap.size) (T := 24) (vs := rgtC 0 0 false false false) (by simp) 1
  have d2 := K0.c (b := w.heap.size) (T := 24) (vs := rgtC 0 0 false false false) (by simp) 2 _ rfl
  have df2 := K0.f (b := w.heap.size) (T := 24) (vs := rgtC 0 0 false false false) (by simp) 2
  have d3 := K0.c (b := w.heap.size) (T := 24) (vs := rgtC 0 0 false false false) (by simp) 3 _ rfl
  have df3 := K0.f (b := w.heap.size) (T := 24) (vs := rgtC 0 0 false false false) (by simp) 3
  have d4 := K0.c (b := w.heap.size) (T := 24) (vs := rgtC 0 0 false false false) (by simp) 4 _ rfl
  have df4 := K0.f (b := w.heap.size) (T := 24) (vs := rgtC 0 0 false false false) (by simp) 4
  clear hy K1
  cases g
  · have e1 := HG.out
    go_wp2
    refine bodyPost_ret (v := .tuple #[rgt 0 0 false false false, .bool false]) (by simp [results, Tryd.results12, go_sem, *]) rfl ⟨rfl, ?_⟩
    exact (((((K0.1.setCell (Nat.le_refl _) _).setCell (Nat.le_refl _) _).setCell (Nat.le_refl _) _).setCell (Nat.le_refl _) _).setCell (Nat.le_refl _) _)
  · have e1 := HG.out
    go_wp2
    refine bodyPost_ret (v := .tuple #[rgt p q a b c, .bool true]) (by simp [results, Tryd.results12, go_sem, *]) rfl ⟨by rw [HP.out, HQ.out, HA.out, HB.out, HC.out], ?_⟩
    exact (((((K0.1.setCell (Nat.le_refl _) _).setCell (Nat.le_refl _) _).setCell (Nat.le_refl _) _).setCell (Nat.le_refl _) _).setCell (Nat.le_refl _) _)
end Go.Proofs.YthbeiigiffnhjaaDoor
