/-
  The model's TableLive.
-/
import Derived.Test.YtpahahonopiblaaDoorTabOk
import Derived.Deep.QuietTactic
import Derived.BigQuiet
namespace Go.Proofs.YtpahahonopiblaaDoor
open Go.RowKit
set_option linter.unusedVariables false

/-- A right is to a thing as it is now. -/
def liveB (l : List T8) (r : R5) : Bool := inR r.t 1 l.length && versAt l (r.t - 1) == r.v
def tabLive (l : List T8) (r : R5) : Bool := tabOk l && (r.ok && liveB l r)
theorem l6In_val' {n lo hi : Int} {b : Bool} (h : decide (lo ≤ n ∧ n ≤ hi) = b) (w : World) :
    Calls Tryd.prog 68 #[.int .i64 n, .int .i64 lo, .int .i64 hi] w fun e w' => e = .returned (.bool b) ∧ w' = w := (l6In_val h w).mono fun e w' h => ⟨h.1, h.2.symm⟩

set_option maxHeartbeats 1000000 in
theorem l3Live_no (l : List T8) (a : Option Addr) (c : Nat) (r : R5) (w : World) (h1 : inR r.t 1 l.length = false) :
    Calls Tryd.prog 124 #[.slice a l.length c, rgt r.t r.v r.r r.w r.k] w fun e w' => e = .returned (.bool (liveB l r)) ∧ Below w.heap.size w w' := by
  have hl : liveB l r = false := by simp [liveB, h1]
  rw [hl]
  have H1 := Lib.hid h1
  clear h1 hl
  go_enter Tryd.func124, Tryd.ntmps124
  go_wp2_with fail
  go_quiet ((go_at_call 68; refine Calls.quiet_of_same (l6In_val' H1.out _)))
  go_wp2
  go_ret
  exact ⟨rfl, drewNB ((Below.refl _ _).alloc (Nat.le_refl _) _) _⟩

set_option maxHeartbeats 1000000 in
theorem l3Live_yes (l : List T8) (b o c : Nat) (r : R5) (w : World) (ht : Tb w b o l) (hz : l.length ≤ 1048576) (h1 : inR r.t 1 l.length = true) :
    Calls Tryd.prog 124 #[.slice (some ⟨b, o, none⟩) l.length c, rgt r.t r.v r.r r.w r.k] w fun e w' => e = .returned (.bool (liveB l r)) ∧ Below w.heap.size w w' := by
  obtain ⟨p1, p2⟩ : 1 ≤ r.t ∧ r.t ≤ l.length := by simpa [inR] using h1
  obtain ⟨j, hj⟩ : ∃ j : Nat, r.t - 1 = j := ⟨(r.t - 1).toNat, by omega⟩
  have hjl : j < l.length := by omega
  have hl : liveB l r = ((l[j]).vers == r.v) := by simp [liveB, h1, versAt_of hjl hj]
  rw [hl]
  have hjl' : (j : Int) < (l.length : Int) := by omega
  have hw : wrap64 (r.t - 1) = (j : Int) := by unfold wrap64; omega
  obtain ⟨ss, qs, -, -, hA⟩ := ht j hjl
  have f3 : w.cell? ⟨b, o + j * 8 + 3, none⟩ = some (.int .i64 (l[j]).vers) := hA 3 _ rfl
  have hbl := cell_lt f3
  have H1 := Lib.hid h1
  clear h1 hl hA ht
  go_enter Tryd.func124, Tryd.ntmps124
  go_wp2_with fail
  go_quiet ((go_at_call 68; refine Calls.quiet_of_same (l6In_val' H1.out _)))
  go_wp2
  go_ret
  exact ⟨rfl, drewNB ((Below.refl _ _).alloc (Nat.le_refl _) _) _⟩

theorem l3Live_any (l : List T8) (s : Sl) (r : R5) (w : World) (ht : HasT w s l) (hz : l.length ≤ 1048576) :
    Calls Tryd.prog 124 #[.slice s.a s.n s.c, rgt r.t r.v r.r r.w r.k] w fun e w' => e = .returned (.bool (liveB l r)) ∧ Below w.heap.size w w' := by
  rw [ht.1]
  cases h1 : inR r.t 1 l.length
  · exact l3Live_no l s.a s.c r w h1
  · rcases ht.2.2 with rfl | ⟨b, o, e, h⟩
    · simp [inR] at h1; omega
    · rw [e]; exact l3Live_yes l b o s.c r w h hz h1

end Go.Proofs.YtpahahonopiblaaDoor
