/-
  The laws' marks: rights that are written over, and whether they still are.
-/
import Derived.Test.YtnfalnmidddkjaaDoorCpD
import Derived.Test.YtnfalnmidddkjaaDoorToRgt
namespace Go.Proofs.YtnfalnmidddkjaaDoor
open Go.RowKit
set_option linter.unusedVariables false

/-- The mark that the laws write at k. -/
def mkR (k : Int) : R5 := ⟨k, k + 1, (k + 1 + 1) % 3 == 0, (k + 1 + 1 + 1) % 3 == 0, (k + 1 + 1 + 1 + 1) % 3 == 0⟩
/-- n marks, from k on. -/
def mks (k : Int) (n : Nat) : List R5 := (List.range n).map fun i => mkR (k + 5 * (i : Nat))
theorem mks_length (k : Int) (n : Nat) : (mks k n).length = n := by simp [mks]
theorem mks_get (k : Int) (n i : Nat) (h : i < n) : ((mks k n).map R5.cs)[i]? = some (mkR (k + 5 * (i : Nat))).cs := by simp [mks, h]

set_option maxHeartbeats 2000000 in
theorem markRightS_own {TY : TypeId} (B m c : Nat) (k0 : Int) (base : Nat) (w : World) (hB : base ≤ B) (hP : Part w B TY 5 m ((mks k0 m).map R5.cs) 0) (hm : m ≤ 1048576) (h0 : 0 ≤ k0) (h1 : k0 ≤ 1099511627776) :
    Calls Tryd.prog 76 #[.slice (some ⟨B, 0, none⟩) m c, .int .i64 k0] w fun e w' => e = .returned (.int .i64 (k0 + 5 * m)) ∧ Part w' B TY 5 m ((mks k0 m).map R5.cs) m ∧ Below base w w' ∧ ∀ b T vs, b ≠ B → Box w b T vs → Box w' b T vs := by
  have HB := Lib.hid hB
  have HP := Lib.hid hP
  clear hB hP
  go_enter Tryd.func76, Tryd.ntmps76
  go_wp2
  go_loopw [1, 5] (fun u i wr => ∃ k : Nat, k ≤ m ∧ i = .int .i64 k ∧ Below base w wr ∧ Part wr B TY 5 m ((mks k0 m).map R5.cs) k ∧ u = .int .i64 (k0 + 5 * k) ∧ ∀ b T vs, b ≠ B → Box w b T vs → Box wr b T vs) (fun _ i _ => m - (intOf i).toNat)
  case atStart => exact ⟨0, by omega, rfl, Below.refl _ _, HP.out, by simp, fun _ _ _ _ h => h⟩
  case round =>
    obtain ⟨k, hk, rfl, B0, P0, rfl, O0⟩ := hrel
    have HO0 := Lib.hid O0
    clear O0
    have HB0 := Lib.hid B0
    have HP0 := Lib.hid P0
    clear B0 P0
    by_cases hlt : k < m
    · have hlt' : (k : Int) < (m : Int) := by omega
      obtain ⟨⟨u0, e0⟩, f0⟩ := HP0.out.next (m := m) hlt (j := 0) (by decide)
      have g0 : wr.cell? ⟨B, k * 5, none⟩ = some u0 := by simpa using e0
      have h0' : wr.frozen? ⟨B, k * 5, none⟩ = false := by simpa using f0
      obtain ⟨⟨u1, e1⟩, f1⟩ := HP0.out.next (m := m) hlt (j := 1) (by decide)
      have g1 : wr.cell? ⟨B, k * 5 + 1, none⟩ = some u1 := by simpa using e1
      have h1' : wr.frozen? ⟨B, k * 5 + 1, none⟩ = false := by simpa using f1
      obtain ⟨⟨u2, e2⟩, f2⟩ := HP0.out.next (m := m) hlt (j := 2) (by decide)
      have g2 : wr.cell? ⟨B, k * 5 + 2, none⟩ = some u2 := by simpa using e2
      have h2' : wr.frozen? ⟨B, k * 5 + 2, none⟩ = false := by simpa using f2
      obtain ⟨⟨u3, e3⟩, f3⟩ := HP0.out.next (m := m) hlt (j := 3) (by decide)
      have g3 : wr.cell? ⟨B, k * 5 + 3, none⟩ = some u3 := by simpa using e3
      have h3' : wr.frozen? ⟨B, k * 5 + 3, none⟩ = false := by simpa using f3
      obtain ⟨⟨u4, e4⟩, f4⟩ := HP0.out.next (m := m) hlt (j := 4) (by decide)
      have g4 : wr.cell? ⟨B, k * 5 + 4, none⟩ = some u4 := by simpa using e4
      have h4' : wr.frozen? ⟨B, k * 5 + 4, none⟩ = false := by simpa using f4
      clear e0 f0 e1 f1 e2 f2 e3 f3 e4 f4
      go_wp2
      go_roundw
      case rel =>
        have hx : ((mks k0 m).map R5.cs)[k]? = some (mkR (k0 + 5 * (k : Nat))).cs := mks_get _ _ _ hlt
        refine ⟨k + 1, by omega, by go_num, ?_, ?_, by go_num, ?_⟩
        · iterate 5 (with_reducible refine Below.setCell ?_ (by dsimp only; exact HB.out) _)
          exact HB0.out
        · have hp := HP0.out.put5 hlt hx
          exact hp
        · intro b T vs hb hx
          iterate 5 (with_reducible refine Box.other ?_ (by dsimp only; exact hb) _)
          exact HO0.out b T vs hb hx
      case measure => simp [intOf]; omega
    · have hlt' : ¬ (k : Int) < (m : Int) := by omega
      have HJ := Lib.hid (show k = m by omega)
      go_wp2
      go_ret
      have hp := HP0.out
      rw [HJ.out] at hp
      exact ⟨by rw [HJ.out]; rfl, hp, HB0.out, HO0.out⟩

set_option maxHeartbeats 2000000 in
theorem heldRightS_ne (m b o c : Nat) (k0 : Int) (w : World) (h : ∀ i, i < m → At w b (o + i * 5) (mkR (k0 + 5 * (i : Nat))).cs) (hm : m ≤ 1048576) (h0 : 0 ≤ k0) (h1 : k0 ≤ 1099511627776) :
    Calls Tryd.prog 78 #[.slice (some ⟨b, o, none⟩) m c, .int .i64 k0] w fun e w' => e = .returned (.int .i64 (k0 + 5 * m)) ∧ w' = w := by
  have HH := Lib.hid h
  clear h
  go_enter Tryd.func78, Tryd.ntmps78
  go_wp2
  go_loopw [1, 5] (fun u i wr => ∃ k : Nat, k ≤ m ∧ i = .int .i64 k ∧ wr = w ∧ u = .int .i64 (k0 + 5 * k)) (fun _ i _ => m - (intOf i).toNat)
  case atStart => exact ⟨0, by omega, rfl, rfl, by simp⟩
  case round =>
    obtain ⟨k, hk, rfl, rfl, rfl⟩ := hrel
    by_cases hlt : k < m
    · have hlt' : (k : Int) < (m : Int) := by omega
      have hc := HH.out k hlt
      have c0 : wr.cell? ⟨b, o + k * 5, none⟩ = some (.int .i64 (k0 + 5 * (k : Int))) := hc 0 _ rfl
      have c1 : wr.cell? ⟨b, o + k * 5 + 1, none⟩ = some (.int .i64 (k0 + 5 * (k : Int) + 1)) := hc 1 _ rfl
      have c2 : wr.cell? ⟨b, o + k * 5 + 2, none⟩ = some (.bool ((k0 + 5 * (k : Int) + 1 + 1) % 3 == 0)) := hc 2 _ rfl
      have c3 : wr.cell? ⟨b, o + k * 5 + 3, none⟩ = some (.bool ((k0 + 5 * (k : Int) + 1 + 1 + 1) % 3 == 0)) := hc 3 _ rfl
      have c4 : wr.cell? ⟨b, o + k * 5 + 4, none⟩ = some (.bool ((k0 + 5 * (k : Int) + 1 + 1 + 1 + 1) % 3 == 0)) := hc 4 _ rfl
      clear hc
      go_wp2
      go_roundw
      case rel => exact ⟨k + 1, by omega, by go_num, by first | rfl | trivial, by go_num⟩
      case measure => simp [intOf]; omega
    · have hlt' : ¬ (k : Int) < (m : Int) := by omega
      have HJ := Lib.hid (show k = m by omega)
      go_wp2
      go_ret
      exact ⟨by rw [HJ.out]; rfl, rfl⟩
end Go.Proofs.YtnfalnmidddkjaaDoor
