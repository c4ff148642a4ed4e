/-
  How much came in with a table, where something is measured behind it.
-/
import Derived.Test.YtpahahonopiblaaDoorEqS
namespace Go.Proofs.YtpahahonopiblaaDoor
open Go.RowKit
set_option linter.unusedVariables false

set_option maxHeartbeats 2000000 in
theorem szThingS2_ne (l : List T8) (b o c : Nat) (w : World) (ht : Tb w b o l) (hn : l.length ≤ 9223372036854775807) (hns : ∀ i (h : i < l.length), l[i].slots.length ≤ 9223372036854775807 ∧ l[i].queue.length ≤ 9223372036854775807) :
    Calls Tryd.prog 13 #[.slice (some ⟨b, o, none⟩) l.length c, .int .i64 1048576] w fun e w' => (∃ r : Int, e = .returned (.int .i64 r) ∧ (r < 0 ∨ r ≤ 1048576 ∧ l.length ≤ 1048576 ∧ ∀ i (h : i < l.length), l[i].slots.length ≤ 1048576 ∧ l[i].queue.length ≤ 1048576)) ∧ Below w.heap.size w w' := by
  have hw : wrap64 (1048576 - (l.length : Int)) = 1048576 - (l.length : Int) := by unfold wrap64; omega
  have HT := Lib.hid ht
  have HN := Lib.hid hns
  clear ht hns
  by_cases h0 : (1048576 : Int) - (l.length : Int) < 0
  · go_enter Tryd.func13, Tryd.ntmps13
    go_wp2
    go_ret
    exact ⟨⟨-1, rfl, .inl (by decide)⟩, Below.refl _ _⟩
  go_enter Tryd.func13, Tryd.ntmps13
  go_wp2
  go_loopw [1, 5] (fun u i wr => ∃ k : Nat, k ≤ l.length ∧ i = .int .i64 k ∧ Below w.heap.size w wr ∧ ∃ v : Int, u = .int .i64 v ∧ v = 1048576 - (l.length : Int) - (sumTo l k : Int) ∧ 0 ≤ v) (fun _ i _ => l.length - (intOf i).toNat)
  case atStart => exact ⟨0, by omega, rfl, Below.refl _ _, _, rfl, by rw [sumTo_zero]; simp, by omega⟩
  case round =>
    obtain ⟨k, hk, rfl, B0, v, rfl, hv, hv0⟩ := hrel
    have HB := Lib.hid B0
    have HV := Lib.hid hv
    clear B0 hv
    by_cases hlt : k < l.length
    · have hlt' : (k : Int) < (l.length : Int) := by omega
      obtain ⟨ss, qs, hR, hQ, hA⟩ := (HT.out.stay HB.out) k hlt
      have c0 : wr.cell? ⟨b, o + k * 8, none⟩ = some (.int .i64 (l[k]).kind) := hA 0 _ rfl
      have c1 : wr.cell? ⟨b, o + k * 8 + 1, none⟩ = some (.int .i64 (l[k]).sec) := hA 1 _ rfl
      have c2 : wr.cell? ⟨b, o + k * 8 + 2, none⟩ = some (.int .i64 (l[k]).vou) := hA 2 _ rfl
      have c3 : wr.cell? ⟨b, o + k * 8 + 3, none⟩ = some (.int .i64 (l[k]).vers) := hA 3 _ rfl
      have c4 : wr.cell? ⟨b, o + k * 8 + 4, none⟩ = some (.int .i64 (l[k]).num) := hA 4 _ rfl
      have c5 : wr.cell? ⟨b, o + k * 8 + 5, none⟩ = some (.slice ss.a ss.n ss.c) := hA 5 _ rfl
      have c6 : wr.cell? ⟨b, o + k * 8 + 6, none⟩ = some (.slice qs.a qs.n qs.c) := hA 6 _ rfl
      have c7 : wr.cell? ⟨b, o + k * 8 + 7, none⟩ = some (.int .i64 (l[k]).to) := hA 7 _ rfl
      have HRn := Lib.hid hR.len
      have HQn := Lib.hid hQ.len
      have hvl : v ≤ 1048576 := by have := HV.out; omega
      have HC := Lib.hid (fun w => szThing_any l[k] ss qs v w (by rw [HRn.out]; exact (HN.out k hlt).1) (by rw [HQn.out]; exact (HN.out k hlt).2) hv0 hvl)
      clear hR hQ hA
      by_cases g : szT v ss.n qs.n < 0
      · revert HC g
        generalize szT v ss.n qs.n = u
        intro HC g
        go_wp2_with fail
        refine (HC.out _).mono ?_
        rintro e y ⟨rfl, hb⟩
        go_wp2
        go_ret
        exact ⟨⟨-1, rfl, .inl (by decide)⟩, HB.out.trans (hb.mono HB.out.size)⟩
      · have HL := Lib.hid (szT_le g)
        revert HC g HL
        generalize szT v ss.n qs.n = u
        intro HC g HL
        go_wp2_with fail
        refine (HC.out _).mono ?_
        rintro e y ⟨rfl, hb⟩
        have HB2 := Lib.hid (HB.out.trans (hb.mono HB.out.size))
        clear hb
        go_wp2
        go_roundw
        case rel =>
          refine ⟨k + 1, by omega, by go_num, HB2.out, u, rfl, ?_, by omega⟩
          have h1 := HL.out.1
          have h2 := HV.out
          have h3 := HRn.out
          have h4 := HQn.out
          rw [sumTo_succ hlt]
          omega
        case measure => simp [intOf]; omega
    · have hlt' : ¬ (k : Int) < (l.length : Int) := by omega
      have HJ := Lib.hid (show k = l.length by omega)
      go_wp2
      go_ret
      refine ⟨⟨v, rfl, .inr ⟨by have := HV.out; omega, by omega, fun i hi => ?_⟩⟩, HB.out⟩
      have := sumTo_ge hi l.length hi (Nat.le_refl _)
      have h2 := HV.out
      rw [HJ.out] at h2
      omega
theorem szThingS2_any (l : List T8) (s : Sl) (w : World) (ht : HasT w s l) (hn : s.n ≤ 9223372036854775807) (hns : ∀ i (h : i < l.length), l[i].slots.length ≤ 9223372036854775807 ∧ l[i].queue.length ≤ 9223372036854775807) :
    Calls Tryd.prog 13 #[.slice s.a s.n s.c, .int .i64 1048576] w fun e w' => (∃ r : Int, e = .returned (.int .i64 r) ∧ (r < 0 ∨ r ≤ 1048576 ∧ l.length ≤ 1048576 ∧ ∀ i (h : i < l.length), l[i].slots.length ≤ 1048576 ∧ l[i].queue.length ≤ 1048576)) ∧ Below w.heap.size w w' := by
  obtain ⟨h1, h2, h3⟩ := ht
  rcases h3 with rfl | ⟨b, o, e, h3⟩
  · rw [h1]
    exact (szThingS_nil s.a s.c w).mono fun e w' h => ⟨⟨_, h.1, .inr ⟨by omega, by simp, fun i h => absurd h (by simp)⟩⟩, h.2⟩
  · rw [h1, e]
    exact szThingS2_ne l b o s.c w h3 (by omega) hns
end Go.Proofs.YtpahahonopiblaaDoor
