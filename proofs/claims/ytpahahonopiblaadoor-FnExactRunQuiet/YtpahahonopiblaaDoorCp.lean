/-
  The laws' copies of what came in: rights, numbers.
-/
import Derived.Test.YtpahahonopiblaaDoorCpD
import Derived.Test.YtpahahonopiblaaDoorToRgt
namespace Go.Proofs.YtpahahonopiblaaDoor
open Go.RowKit
set_option linter.unusedVariables false


set_option maxHeartbeats 2000000 in
theorem toRightS_ne (l : List R5) (b o c : Nat) (w : World) (hl : ∀ i (h : i < l.length), At w b (o + i * 5) (l[i]).cs) (hz : l.length ≤ 1048576) :
    Calls Tryd.prog 87 #[.slice (some ⟨b, o, none⟩) l.length c] w fun e w' => e = .returned (.slice (some ⟨w.heap.size, 0, none⟩) l.length l.length) ∧ HasR w' ⟨some ⟨w.heap.size, 0, none⟩, l.length, l.length⟩ l ∧ Below w.heap.size w w' := by
  have hmk := fun w => make_row (P := Tryd.prog) 34 44 (rgt 0 0 false false false) 5 24 Tryd.underlying34 (by kernel_rfl) l.length (by omega) (by omega) w
  have HL := Lib.hid hl
  clear hl
  go_enter Tryd.func87, Tryd.ntmps87
  go_wp2
  go_loopw [4] (fun i wr => ∃ k : Nat, k ≤ l.length ∧ i = .int .i64 k ∧ Below w.heap.size w wr ∧ Part wr w.heap.size 44 5 l.length (l.map R5.cs) k) (fun i _ => l.length - (intOf i).toNat)
  case atStart => exact ⟨0, by omega, rfl, (Below.refl _ _).alloc (Nat.le_refl _) _, Part.fresh _ _ _ _ _ _⟩
  case round =>
    obtain ⟨k, hk, rfl, B0, P0⟩ := hrel
    have HB0 := Lib.hid B0
    have HP0 := Lib.hid P0
    clear B0 P0 hmk
    by_cases hlt : k < l.length
    · have hlt' : (k : Int) < (l.length : Int) := by omega
      have hc := (HL.out k hlt).stay HB0.out
      have c0 : wr.cell? ⟨b, o + k * 5, none⟩ = some (.int .i64 (l[k]).t) := hc 0 _ rfl
      have c1 : wr.cell? ⟨b, o + k * 5 + 1, none⟩ = some (.int .i64 (l[k]).v) := hc 1 _ rfl
      have c2 : wr.cell? ⟨b, o + k * 5 + 2, none⟩ = some (.bool (l[k]).r) := hc 2 _ rfl
      have c3 : wr.cell? ⟨b, o + k * 5 + 3, none⟩ = some (.bool (l[k]).w) := hc 3 _ rfl
      have c4 : wr.cell? ⟨b, o + k * 5 + 4, none⟩ = some (.bool (l[k]).k) := hc 4 _ rfl
      clear hc
      go_wp2_with fail
      refine (toRight_any _ _ _ _ _ _).mono ?_
      rintro e y ⟨rfl, hb⟩
      have HP := Lib.hid (HP0.out.stay hb)
      have HB := Lib.hid (HB0.out.trans (hb.mono HB0.out.size))
      clear hb c0 c1 c2 c3 c4
      obtain ⟨⟨u0, e0⟩, f0⟩ := HP.out.next (m := l.length) hlt (j := 0) (by decide)
      have g0 : y.cell? ⟨w.heap.size, k * 5, none⟩ = some u0 := by simpa using e0
      have h0 : y.frozen? ⟨w.heap.size, k * 5, none⟩ = false := by simpa using f0
      obtain ⟨⟨u1, e1⟩, f1⟩ := HP.out.next (m := l.length) hlt (j := 1) (by decide)
      have g1 : y.cell? ⟨w.heap.size, k * 5 + 1, none⟩ = some u1 := by simpa using e1
      have h1 : y.frozen? ⟨w.heap.size, k * 5 + 1, none⟩ = false := by simpa using f1
      obtain ⟨⟨u2, e2⟩, f2⟩ := HP.out.next (m := l.length) hlt (j := 2) (by decide)
      have g2 : y.cell? ⟨w.heap.size, k * 5 + 2, none⟩ = some u2 := by simpa using e2
      have h2 : y.frozen? ⟨w.heap.size, k * 5 + 2, none⟩ = false := by simpa using f2
      obtain ⟨⟨u3, e3⟩, f3⟩ := HP.out.next (m := l.length) hlt (j := 3) (by decide)
      have g3 : y.cell? ⟨w.heap.size, k * 5 + 3, none⟩ = some u3 := by simpa using e3
      have h3 : y.frozen? ⟨w.heap.size, k * 5 + 3, none⟩ = false := by simpa using f3
      obtain ⟨⟨u4, e4⟩, f4⟩ := HP.out.next (m := l.length) hlt (j := 4) (by decide)
      have g4 : y.cell? ⟨w.heap.size, k * 5 + 4, none⟩ = some u4 := by simpa using e4
      have h4 : y.frozen? ⟨w.heap.size, k * 5 + 4, none⟩ = false := by simpa using f4
      clear e0 f0 e1 f1 e2 f2 e3 f3 e4 f4
      go_wp2
      go_roundw
      case rel =>
        have hx : (l.map R5.cs)[k]? = some ((l[k]).cs) := by simp [List.getElem?_eq_getElem hlt]
        refine ⟨k + 1, by omega, by go_num, ?_, ?_⟩
        · iterate 5 (with_reducible refine Below.setCell ?_ (by dsimp only; omega) _)
          exact HB.out
        · exact HP.out.put5 hlt hx
      case measure => simp [intOf]; omega
    · have hlt' : ¬ (k : Int) < (l.length : Int) := by omega
      have HJ := Lib.hid (show k = l.length by omega)
      go_wp2
      go_ret
      refine ⟨rfl, ?_, HB0.out⟩
      have hp := HP0.out
      rw [HJ.out] at hp
      have := Part.els (l := l.map R5.cs) (by simpa using hp) (by intro x hx; simp at hx; obtain ⟨y, _, rfl⟩ := hx; rfl)
      simpa [HasR] using this

set_option maxHeartbeats 1000000 in
theorem toRightS_nil (a : Option Addr) (c : Nat) (w : World) :
    Calls Tryd.prog 87 #[.slice a 0 c] w fun e w' => e = .returned (.slice (some ⟨w.heap.size, 0, none⟩) 0 0) ∧ Below w.heap.size w w' := by
  have hmk := fun w => make_row (P := Tryd.prog) 34 44 (rgt 0 0 false false false) 5 24 Tryd.underlying34 (by kernel_rfl) 0 (by omega) (by omega) w
  simp only [Nat.zero_mul, Int.natCast_zero] at hmk
  go_enter Tryd.func87, Tryd.ntmps87
  go_wp2
  go_loop [4] (fun i => i = .int .i64 0) (fun _ => 0)
  case atStart => rfl
  case round =>
    subst hrel
    go_wp2
    go_ret
    exact ⟨rfl, (Below.refl _ _).alloc (Nat.le_refl _) _⟩
theorem toRightS_any (l : List R5) (s : Sl) (w : World) (h : HasR w s l) (hz : l.length ≤ 1048576) :
    Calls Tryd.prog 87 #[.slice s.a s.n s.c] w fun e w' => (∃ s' : Sl, e = .returned (.slice s'.a s'.n s'.c) ∧ HasR w' s' l ∧ s'.a = some ⟨w.heap.size, 0, none⟩) ∧ Below w.heap.size w w' := by
  have hn := h.len
  by_cases hl : l = []
  · subst hl
    rw [hn]
    refine (toRightS_nil s.a s.c w).mono fun e w' h => ⟨⟨⟨some ⟨w.heap.size, 0, none⟩, 0, 0⟩, h.1, ⟨rfl, Nat.le_refl _, .inl rfl⟩, rfl⟩, h.2⟩
  · obtain ⟨b, o, ea, hall⟩ : ∃ b o, s.a = some ⟨b, o, none⟩ ∧ ∀ i (h : i < l.length), At w b (o + i * 5) (l[i]).cs := by
      rcases h.2.2 with h0 | ⟨b, o, e, h3⟩
      · exact absurd (by simpa using h0) hl
      · exact ⟨b, o, e, fun i hi => h3 i _ (by simp [List.getElem?_eq_getElem hi])⟩
    rw [hn, ea]
    exact (toRightS_ne l b o s.c w hall hz).mono fun e w' h => ⟨⟨⟨some ⟨w.heap.size, 0, none⟩, l.length, l.length⟩, h.1, h.2.1, rfl⟩, h.2.2⟩

set_option maxHeartbeats 2000000 in
theorem toIntS_ne (l : List Int) (b o c : Nat) (w : World) (hl : ∀ i (h : i < l.length), w.cell? ⟨b, o + i, none⟩ = some (.int .i64 l[i])) (hz : l.length ≤ 1048576) :
    Calls Tryd.prog 88 #[.slice (some ⟨b, o, none⟩) l.length c] w fun e w' => e = .returned (.slice (some ⟨w.heap.size, 0, none⟩) l.length l.length) ∧ HasQ w' ⟨some ⟨w.heap.size, 0, none⟩, l.length, l.length⟩ l ∧ Below w.heap.size w w' := by
  have hmk := fun w => make_row (P := Tryd.prog) 35 3 (.int .i64 0) 1 8 Tryd.underlying35 (by kernel_rfl) l.length (by omega) (by omega) w
  have HL := Lib.hid hl
  clear hl
  go_enter Tryd.func88, Tryd.ntmps88
  go_wp2
  go_loopw [4] (fun i wr => ∃ k : Nat, k ≤ l.length ∧ i = .int .i64 k ∧ Below w.heap.size w wr ∧ Part wr w.heap.size 3 1 l.length (l.map (fun n => #[Value.int .i64 n])) k) (fun i _ => l.length - (intOf i).toNat)
  case atStart => exact ⟨0, by omega, rfl, (Below.refl _ _).alloc (Nat.le_refl _) _, by have h := Part.fresh w 3 1 l.length (l.map (fun n => #[Value.int .i64 n])) #[.int .i64 0]; rw [Nat.mul_one] at h; exact h⟩
  case round =>
    obtain ⟨k, hk, rfl, B0, P0⟩ := hrel
    have HB0 := Lib.hid B0
    have HP0 := Lib.hid P0
    clear B0 P0 hmk
    by_cases hlt : k < l.length
    · have hlt' : (k : Int) < (l.length : Int) := by omega
      have hc := stayCell (HL.out k hlt) HB0.out
      have c0 : wr.cell? ⟨b, o + k, none⟩ = some (.int .i64 l[k]) := hc
      clear hc
      have HP := HP0
      have HB := HB0
      obtain ⟨⟨u0, e0⟩, f0⟩ := HP.out.next (m := l.length) hlt (j := 0) (by decide)
      have g0 : wr.cell? ⟨w.heap.size, k, none⟩ = some u0 := by simpa using e0
      have h0 : wr.frozen? ⟨w.heap.size, k, none⟩ = false := by simpa using f0
      clear e0 f0
      go_wp2
      go_roundw
      case rel =>
        have hx : (l.map (fun n => #[Value.int .i64 n]))[k]? = some (#[Value.int .i64 l[k]]) := by simp [List.getElem?_eq_getElem hlt]
        refine ⟨k + 1, by omega, by go_num, ?_, ?_⟩
        · iterate 1 (with_reducible refine Below.setCell ?_ (by dsimp only; omega) _)
          exact HB.out
        · exact HP.out.put1 hlt hx
      case measure => simp [intOf]; omega
    · have hlt' : ¬ (k : Int) < (l.length : Int) := by omega
      have HJ := Lib.hid (show k = l.length by omega)
      go_wp2
      go_ret
      refine ⟨rfl, ?_, HB0.out⟩
      have hp := HP0.out
      rw [HJ.out] at hp
      have := Part.els (l := l.map (fun n => #[Value.int .i64 n])) (by simpa using hp) (by intro x hx; simp at hx; obtain ⟨y, _, rfl⟩ := hx; rfl)
      simpa [HasQ] using this

set_option maxHeartbeats 1000000 in
theorem toIntS_nil (a : Option Addr) (c : Nat) (w : World) :
    Calls Tryd.prog 88 #[.slice a 0 c] w fun e w' => e = .returned (.slice (some ⟨w.heap.size, 0, none⟩) 0 0) ∧ Below w.heap.size w w' := by
  have hmk := fun w => make_row (P := Tryd.prog) 35 3 (.int .i64 0) 1 8 Tryd.underlying35 (by kernel_rfl) 0 (by omega) (by omega) w
  simp only [Nat.zero_mul, Int.natCast_zero] at hmk
  go_enter Tryd.func88, Tryd.ntmps88
  go_wp2
  go_loop [4] (fun i => i = .int .i64 0) (fun _ => 0)
  case atStart => rfl
  case round =>
    subst hrel
    go_wp2
    go_ret
    exact ⟨rfl, (Below.refl _ _).alloc (Nat.le_refl _) _⟩
theorem toIntS_any (l : List Int) (s : Sl) (w : World) (h : HasQ w s l) (hz : l.length ≤ 1048576) :
    Calls Tryd.prog 88 #[.slice s.a s.n s.c] w fun e w' => (∃ s' : Sl, e = .returned (.slice s'.a s'.n s'.c) ∧ HasQ w' s' l ∧ s'.a = some ⟨w.heap.size, 0, none⟩) ∧ Below w.heap.size w w' := by
  have hn := h.len
  by_cases hl : l = []
  · subst hl
    rw [hn]
    refine (toIntS_nil s.a s.c w).mono fun e w' h => ⟨⟨⟨some ⟨w.heap.size, 0, none⟩, 0, 0⟩, h.1, ⟨rfl, Nat.le_refl _, .inl rfl⟩, rfl⟩, h.2⟩
  · obtain ⟨b, o, ea, hall⟩ : ∃ b o, s.a = some ⟨b, o, none⟩ ∧ ∀ i (h : i < l.length), w.cell? ⟨b, o + i, none⟩ = some (.int .i64 l[i]) := by
      rcases h.2.2 with h0 | ⟨b, o, e, h3⟩
      · exact absurd (by simpa using h0) hl
      · exact ⟨b, o, e, fun i hi => by have := h3 i #[.int .i64 l[i]] (by simp [List.getElem?_eq_getElem hi]) 0 _ rfl; simpa using this⟩
    rw [hn, ea]
    exact (toIntS_ne l b o s.c w hall hz).mono fun e w' h => ⟨⟨⟨some ⟨w.heap.size, 0, none⟩, l.length, l.length⟩, h.1, h.2.1, rfl⟩, h.2.2⟩
end Go.Proofs.YtpahahonopiblaaDoor
