/-
  The program's table of kinds, and its smallest functions on things.
-/
import Derived.Test.YtpahahonopiblaaDoorTabD
import Derived.Test.YtpahahonopiblaaDoorLabA
import Derived.Test.YtpahahonopiblaaDoorWld
import Derived.Test.YtpahahonopiblaaDoorHas
namespace Go.Proofs.YtpahahonopiblaaDoor
open Go.RowKit
set_option linter.unusedVariables false

/-- What the fields of a kind may hold. -/
structure Row where
  nm : ByteArray
  v0 : Int
  v1 : Int
  n0 : Int
  n1 : Int
  t0 : Int
  t1 : Int
  s0 : Int
  s1 : Int
  q0 : Int
  q1 : Int
abbrev Row.cs (r : Row) : Array Value := #[.string r.nm, .int .i64 r.v0, .int .i64 r.v1, .int .i64 r.n0, .int .i64 r.n1, .int .i64 r.t0, .int .i64 r.t1, .int .i64 r.s0, .int .i64 r.s1, .int .i64 r.q0, .int .i64 r.q1]
abbrev Row.val (r : Row) : Value := .agg r.cs
abbrev row0 : Row := ⟨⟨#[]⟩, 0, 0, 0, 0, 0, 0, 0, 0, 0, 0⟩
abbrev row1 : Row := ⟨⟨#[112, 97, 103, 101]⟩, 0, 5, 0, 99, 0, 0, 0, 0, 0, 0⟩
abbrev row2 : Row := ⟨⟨#[110, 111, 100, 101]⟩, 0, 5, 0, 0, 0, 0, 4, 4, 0, 0⟩
abbrev row3 : Row := ⟨⟨#[114, 117, 110]⟩, 0, 0, -4, 99, 0, 0, 4, 4, 0, 0⟩
abbrev row4 : Row := ⟨⟨#[112, 105, 112, 101]⟩, 0, 5, 0, 0, 0, 0, 0, 0, 0, 3⟩
abbrev row5 : Row := ⟨⟨#[103, 97, 116, 101]⟩, 0, 0, 0, 99, 1, 8, 0, 0, 0, 0⟩
def rowOf (k : Int) : Row := if k = 1 then row1 else if k = 2 then row2 else if k = 3 then row3 else if k = 4 then row4 else if k = 5 then row5 else row0
/-- The table of kinds lies in its place. -/
def KF (w : World) : Prop := ∀ k : Nat, k < 6 → At w 0 (k * 11) (rowOf k).cs
theorem KF.stay {w w' : World} (h : KF w) (hb : Below w.heap.size w w') : KF w' := fun k hk => (h k hk).stay hb
theorem KF.drew {w : World} (h : KF w) : KF w.drew := h

set_option maxHeartbeats 1000000 in
theorem fieldsOf_out (k : Int) (h : inR k 1 5 = false) (w : World) :
    Calls Tryd.prog 56 #[.int .i64 k] w fun e w' => e = .returned (.tuple #[row0.val, .bool false]) ∧ Below w.heap.size w w' := by
  by_cases h1 : k < 1
  · clear h
    go_enter Tryd.func56, Tryd.ntmps56
    go_wp2
    refine bodyPost_ret (v := .tuple #[row0.val, .bool false]) (by simp [results, Tryd.results56, go_sem]) rfl ⟨rfl, ?_⟩
    exact (Below.refl _ _).alloc (Nat.le_refl _) _
  · have h5 : 5 < k := by simp [inR] at h; omega
    clear h
    go_enter Tryd.func56, Tryd.ntmps56
    go_wp2
    refine bodyPost_ret (v := .tuple #[row0.val, .bool false]) (by simp [results, Tryd.results56, go_sem]) rfl ⟨rfl, ?_⟩
    exact (Below.refl _ _).alloc (Nat.le_refl _) _

set_option maxHeartbeats 2000000 in
theorem fieldsOf_in (k : Nat) (h : k < 6) (h1 : 1 ≤ k) (w : World) (hf : KF w) :
    Calls Tryd.prog 56 #[.int .i64 k] w fun e w' => e = .returned (.tuple #[(rowOf k).val, .bool true]) ∧ Below w.heap.size w w' := by
  have hA := hf k h
  have hlt := cell_lt (hA 0 _ rfl)
  generalize hr : rowOf k = r at *
  have d0 : w.cell? ⟨0, k * 11, none⟩ = some (.string r.nm) := hA 0 _ rfl
  have d1 := hA 1 _ rfl
  have d2 := hA 2 _ rfl
  have d3 := hA 3 _ rfl
  have d4 := hA 4 _ rfl
  have d5 := hA 5 _ rfl
  have d6 := hA 6 _ rfl
  have d7 := hA 7 _ rfl
  have d8 := hA 8 _ rfl
  have d9 := hA 9 _ rfl
  have d10 := hA 10 _ rfl
  clear hr hA hf
  have h1' : ¬ (k : Int) < 1 := by omega
  have h2' : ¬ (5 : Int) < (k : Int) := by omega
  have h3' : (k : Int) < 6 := by omega
  go_enter Tryd.func56, Tryd.ntmps56
  go_wp2
  refine bodyPost_ret (v := .tuple #[r.val, .bool true]) (by simp [results, Tryd.results56, go_sem]) rfl ⟨rfl, ?_⟩
  exact (Below.refl _ _).alloc (Nat.le_refl _) _

set_option maxHeartbeats 1000000 in
theorem thingAt_no (n : Int) (m : Nat) (a : Option Addr) (c : Nat) (h : inR n 1 m = false) (w : World) :
    Calls Tryd.prog 64 #[.slice a m c, .int .i64 n] w fun e w' => e = .returned (.tuple #[.agg #[.int .i64 0, .int .i64 0, .int .i64 0, .int .i64 0, .int .i64 0, .slice none 0 0, .slice none 0 0, .int .i64 0], .bool false]) ∧ Below w.heap.size w w' := by
  by_cases h1 : n < 1
  · clear h
    go_enter Tryd.func64, Tryd.ntmps64
    go_wp2
    refine bodyPost_ret (v := .tuple #[.agg #[.int .i64 0, .int .i64 0, .int .i64 0, .int .i64 0, .int .i64 0, .slice none 0 0, .slice none 0 0, .int .i64 0], .bool false]) (by simp [results, Tryd.results64, go_sem]) rfl ⟨rfl, ?_⟩
    exact (Below.refl _ _).alloc (Nat.le_refl _) _
  · have h5 : (m : Int) < n := by simp [inR] at h; omega
    clear h
    go_enter Tryd.func64, Tryd.ntmps64
    go_wp2
    refine bodyPost_ret (v := .tuple #[.agg #[.int .i64 0, .int .i64 0, .int .i64 0, .int .i64 0, .int .i64 0, .slice none 0 0, .slice none 0 0, .int .i64 0], .bool false]) (by simp [results, Tryd.results64, go_sem]) rfl ⟨rfl, ?_⟩
    exact (Below.refl _ _).alloc (Nat.le_refl _) _

set_option maxHeartbeats 2000000 in
theorem thingAt_yes (l : List T8) (b o c : Nat) (n : Int) (j : Nat) (hj : j < l.length) (hn : n - 1 = j) (hz : l.length ≤ 1048576) (ss qs : Sl) (w : World) (hA : At w b (o + j * 8) (l[j].cs ss qs)) :
    Calls Tryd.prog 64 #[.slice (some ⟨b, o, none⟩) l.length c, .int .i64 n] w fun e w' => e = .returned (.tuple #[l[j].val ss qs, .bool true]) ∧ Below w.heap.size w w' := by
  have hlt := cell_lt (hA 0 _ rfl)
  obtain rfl : n = (j : Int) + 1 := by omega
  have h1 : ¬ (j : Int) + 1 < 1 := by omega
  have h2 : ¬ (l.length : Int) < (j : Int) + 1 := by omega
  have hw : wrap64 ((j : Int) + 1 - 1) = (j : Int) := by unfold wrap64; omega
  have hjl' : (j : Int) < (l.length : Int) := by omega
  generalize l[j] = x at *
  have d0 : w.cell? ⟨b, o + j * 8, none⟩ = some (.int .i64 x.kind) := hA 0 _ rfl
  have d1 := hA 1 _ rfl
  have d2 := hA 2 _ rfl
  have d3 := hA 3 _ rfl
  have d4 := hA 4 _ rfl
  have d5 := hA 5 _ rfl
  have d6 := hA 6 _ rfl
  have d7 := hA 7 _ rfl
  clear hA hn
  go_enter Tryd.func64, Tryd.ntmps64
  go_wp2
  refine bodyPost_ret (v := .tuple #[x.val ss qs, .bool true]) (by simp [results, Tryd.results64, go_sem]) rfl ⟨rfl, ?_⟩
  exact (Below.refl _ _).alloc (Nat.le_refl _) _
end Go.Proofs.YtpahahonopiblaaDoor
