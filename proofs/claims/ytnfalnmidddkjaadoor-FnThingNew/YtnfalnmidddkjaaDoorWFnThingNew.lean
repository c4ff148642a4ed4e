/-
  The walk of laws.FnThingNew.
-/
import Derived.Test.YtnfalnmidddkjaaDoorDrawN
import Derived.Test.YtnfalnmidddkjaaDoorLd
import Derived.Test.YtnfalnmidddkjaaDoorThgN
namespace Go.Proofs.YtnfalnmidddkjaaDoor
open Go.RowKit
set_option maxRecDepth 100000
set_option linter.unusedVariables false

theorem newT_zero (kind sec vou tt : Int) (k : Nat) (h : k < (newT kind sec vou tt).slots.length) : (newT kind sec vou tt).slots[k] = ⟨0, 0, false, false, false⟩ := by
  have hm := List.getElem_mem h
  generalize (newT kind sec vou tt).slots[k] = r at hm
  simp only [newT] at hm
  split at hm <;> simp at hm
  exact hm
theorem newT_len (kind sec vou tt : Int) : (newT kind sec vou tt).slots.length ≤ 4 := by simp only [newT]; split <;> simp
theorem newT_to (kind sec vou tt : Int) (h : okT (newT kind sec vou tt) = true) : (kind == 5) = decide (0 < tt) := by
  simp only [okT, okT4, Bool.and_eq_true] at h
  have h5 : (kind == 5 && inR tt 1 8 || kind != 5 && tt == 0) = true := h.2.2.2.2.2.2
  by_cases hk : kind = 5
  · rw [hk] at h5 ⊢
    simp [inR] at h5
    simp; omega
  · simp [hk] at h5
    rw [h5]; simp [hk]

set_option maxHeartbeats 8000000 in
theorem walk_FnThingNew (a0 : Option Addr) (len0 cap0 : Nat) (z0 : List Int) (w : World) (hKF : KF w) (w0 : IsRow .u8 w a0 len0 cap0 z0) :
    Calls Tryd.prog 3 #[.slice a0 len0 cap0] w fun e w' => e = .returned (.bool true) ∧ Below w.heap.size w w' := by
  by_cases g0 : (1048576 : Int) < (len0 : Int)
  · go_enter Tryd.func3, Tryd.ntmps3
    go_wp2
    go_ret
    exact ⟨rfl, Below.refl _ _⟩
  have W0 := Lib.hid w0
  have HF := Lib.hid hKF
  clear w0 hKF
  go_enter Tryd.func3, Tryd.ntmps3
  go_wp2_with fail
  refine (drawTNew_any a0 len0 cap0 z0 _ W0.out).mono ?_
  rintro e x ⟨kind, sec, vou, tt, rfl, hx⟩
  have K0 := Lib.hid ((Kn.start hx).new 24 #[.int .i64 sec, .int .i64 vou])
  clear W0 hx
  go_wp2_with fail
  refine (specTNew_any kind sec vou tt _).mono ?_
  rintro e y1 ⟨h1, hb⟩
  have K1 := Lib.hid (K0.out.stay hb)
  clear hb K0
  cases ho : okT (newT kind sec vou tt)
  · have HO := Lib.hid ho
    rcases h1 with ⟨-, rfl⟩ | ⟨h, -⟩
    case inr => exact absurd (ho.symm.trans h) (by decide)
    clear ho
    have K2 := Lib.hid (K1.out.new 30 (zeroT.cs ⟨none, 0, 0⟩ ⟨none, 0, 0⟩))
    clear K1
    have l0 := K2.out.c (b := x.heap.size) (T := 24) (vs := #[.int .i64 sec, .int .i64 vou]) (by simp) 0 _ rfl
    have l1 := K2.out.c (b := x.heap.size) (T := 24) (vs := #[.int .i64 sec, .int .i64 vou]) (by simp) 1 _ rfl
    go_wp2_with fail
    refine (implTNew_any kind sec vou tt _ (HF.out.stay K2.out.1)).mono ?_
    rintro e y2 ⟨h1, hb⟩
    have K3 := Lib.hid (K2.out.stay hb)
    clear hb K2 l0 l1
    rcases h1 with ⟨-, rfl⟩ | ⟨h, -⟩
    case inr => exact absurd (HO.out.symm.trans h) (by decide)
    have K4 := Lib.hid (K3.out.new 30 (zeroT.cs ⟨none, 0, 0⟩ ⟨none, 0, 0⟩))
    clear K3
    have c0 := K4.out.c (b := y1.heap.size) (T := 30) (vs := (zeroT.cs ⟨none, 0, 0⟩ ⟨none, 0, 0⟩)) (by simp) 0 _ rfl
    have c1 := K4.out.c (b := y1.heap.size) (T := 30) (vs := (zeroT.cs ⟨none, 0, 0⟩ ⟨none, 0, 0⟩)) (by simp) 1 _ rfl
    have c2 := K4.out.c (b := y1.heap.size) (T := 30) (vs := (zeroT.cs ⟨none, 0, 0⟩ ⟨none, 0, 0⟩)) (by simp) 2 _ rfl
    have c3 := K4.out.c (b := y1.heap.size) (T := 30) (vs := (zeroT.cs ⟨none, 0, 0⟩ ⟨none, 0, 0⟩)) (by simp) 3 _ rfl
    have c4 := K4.out.c (b := y1.heap.size) (T := 30) (vs := (zeroT.cs ⟨none, 0, 0⟩ ⟨none, 0, 0⟩)) (by simp) 4 _ rfl
    have c5 := K4.out.c (b := y1.heap.size) (T := 30) (vs := (zeroT.cs ⟨none, 0, 0⟩ ⟨none, 0, 0⟩)) (by simp) 5 _ rfl
    have c6 := K4.out.c (b := y1.heap.size) (T := 30) (vs := (zeroT.cs ⟨none, 0, 0⟩ ⟨none, 0, 0⟩)) (by simp) 6 _ rfl
    have c7 := K4.out.c (b := y1.heap.size) (T := 30) (vs := (zeroT.cs ⟨none, 0, 0⟩ ⟨none, 0, 0⟩)) (by simp) 7 _ rfl
    have d0 := K4.out.c (b := y2.heap.size) (T := 30) (vs := (zeroT.cs ⟨none, 0, 0⟩ ⟨none, 0, 0⟩)) (by simp) 0 _ rfl
    have d1 := K4.out.c (b := y2.heap.size) (T := 30) (vs := (zeroT.cs ⟨none, 0, 0⟩ ⟨none, 0, 0⟩)) (by simp) 1 _ rfl
    have d2 := K4.out.c (b := y2.heap.size) (T := 30) (vs := (zeroT.cs ⟨none, 0, 0⟩ ⟨none, 0, 0⟩)) (by simp) 2 _ rfl
    have d3 := K4.out.c (b := y2.heap.size) (T := 30) (vs := (zeroT.cs ⟨none, 0, 0⟩ ⟨none, 0, 0⟩)) (by simp) 3 _ rfl
    have d4 := K4.out.c (b := y2.heap.size) (T := 30) (vs := (zeroT.cs ⟨none, 0, 0⟩ ⟨none, 0, 0⟩)) (by simp) 4 _ rfl
    have d5 := K4.out.c (b := y2.heap.size) (T := 30) (vs := (zeroT.cs ⟨none, 0, 0⟩ ⟨none, 0, 0⟩)) (by simp) 5 _ rfl
    have d6 := K4.out.c (b := y2.heap.size) (T := 30) (vs := (zeroT.cs ⟨none, 0, 0⟩ ⟨none, 0, 0⟩)) (by simp) 6 _ rfl
    have d7 := K4.out.c (b := y2.heap.size) (T := 30) (vs := (zeroT.cs ⟨none, 0, 0⟩ ⟨none, 0, 0⟩)) (by simp) 7 _ rfl
    go_wp2_with fail
    refine (ldThing_any zeroT zeroT ⟨none, 0, 0⟩ ⟨none, 0, 0⟩ ⟨none, 0, 0⟩ ⟨none, 0, 0⟩ _ ⟨rfl, Nat.le_refl _, .inl rfl⟩ ⟨rfl, Nat.le_refl _, .inl rfl⟩ ⟨rfl, Nat.le_refl _, .inl rfl⟩ ⟨rfl, Nat.le_refl _, .inl rfl⟩ (by decide) (by decide)).mono ?_
    rintro e y3 ⟨v, rfl, hv, hb⟩
    obtain rfl : v = true := hv.2 rfl
    have K5 := Lib.hid (K4.out.stay hb)
    clear hb K4 hv c0 c1 c2 c3 c4 c5 c6 c7 d0 d1 d2 d3 d4 d5 d6 d7
    have d0 := K5.out.c (b := y2.heap.size) (T := 30) (vs := (zeroT.cs ⟨none, 0, 0⟩ ⟨none, 0, 0⟩)) (by simp) 0 _ rfl
    have d1 := K5.out.c (b := y2.heap.size) (T := 30) (vs := (zeroT.cs ⟨none, 0, 0⟩ ⟨none, 0, 0⟩)) (by simp) 1 _ rfl
    have d2 := K5.out.c (b := y2.heap.size) (T := 30) (vs := (zeroT.cs ⟨none, 0, 0⟩ ⟨none, 0, 0⟩)) (by simp) 2 _ rfl
    have d3 := K5.out.c (b := y2.heap.size) (T := 30) (vs := (zeroT.cs ⟨none, 0, 0⟩ ⟨none, 0, 0⟩)) (by simp) 3 _ rfl
    have d4 := K5.out.c (b := y2.heap.size) (T := 30) (vs := (zeroT.cs ⟨none, 0, 0⟩ ⟨none, 0, 0⟩)) (by simp) 4 _ rfl
    have d5 := K5.out.c (b := y2.heap.size) (T := 30) (vs := (zeroT.cs ⟨none, 0, 0⟩ ⟨none, 0, 0⟩)) (by simp) 5 _ rfl
    have d6 := K5.out.c (b := y2.heap.size) (T := 30) (vs := (zeroT.cs ⟨none, 0, 0⟩ ⟨none, 0, 0⟩)) (by simp) 6 _ rfl
    have d7 := K5.out.c (b := y2.heap.size) (T := 30) (vs := (zeroT.cs ⟨none, 0, 0⟩ ⟨none, 0, 0⟩)) (by simp) 7 _ rfl
    have c0 := K5.out.c (b := y1.heap.size) (T := 30) (vs := (zeroT.cs ⟨none, 0, 0⟩ ⟨none, 0, 0⟩)) (by simp) 0 _ rfl
    have c1 := K5.out.c (b := y1.heap.size) (T := 30) (vs := (zeroT.cs ⟨none, 0, 0⟩ ⟨none, 0, 0⟩)) (by simp) 1 _ rfl
    have c2 := K5.out.c (b := y1.heap.size) (T := 30) (vs := (zeroT.cs ⟨none, 0, 0⟩ ⟨none, 0, 0⟩)) (by simp) 2 _ rfl
    have c3 := K5.out.c (b := y1.heap.size) (T := 30) (vs := (zeroT.cs ⟨none, 0, 0⟩ ⟨none, 0, 0⟩)) (by simp) 3 _ rfl
    have c4 := K5.out.c (b := y1.heap.size) (T := 30) (vs := (zeroT.cs ⟨none, 0, 0⟩ ⟨none, 0, 0⟩)) (by simp) 4 _ rfl
    have c5 := K5.out.c (b := y1.heap.size) (T := 30) (vs := (zeroT.cs ⟨none, 0, 0⟩ ⟨none, 0, 0⟩)) (by simp) 5 _ rfl
    have c6 := K5.out.c (b := y1.heap.size) (T := 30) (vs := (zeroT.cs ⟨none, 0, 0⟩ ⟨none, 0, 0⟩)) (by simp) 6 _ rfl
    have c7 := K5.out.c (b := y1.heap.size) (T := 30) (vs := (zeroT.cs ⟨none, 0, 0⟩ ⟨none, 0, 0⟩)) (by simp) 7 _ rfl
    go_wp2_with fail
    refine (ldThing_any zeroT zeroT ⟨none, 0, 0⟩ ⟨none, 0, 0⟩ ⟨none, 0, 0⟩ ⟨none, 0, 0⟩ _ ⟨rfl, Nat.le_refl _, .inl rfl⟩ ⟨rfl, Nat.le_refl _, .inl rfl⟩ ⟨rfl, Nat.le_refl _, .inl rfl⟩ ⟨rfl, Nat.le_refl _, .inl rfl⟩ (by decide) (by decide)).mono ?_
    rintro e y4 ⟨v, rfl, hv, hb⟩
    obtain rfl : v = true := hv.2 rfl
    have K6 := Lib.hid (K5.out.stay hb)
    clear hb K5 hv c0 c1 c2 c3 c4 c5 c6 c7 d0 d1 d2 d3 d4 d5 d6 d7
    go_wp2
    go_ret
    exact ⟨rfl, K6.out.1⟩
  · have HO := Lib.hid ho
    rcases h1 with ⟨h, -⟩ | ⟨-, s1, q1, rfl, hr1, hq1, -, -⟩
    case inl => exact absurd (ho.symm.trans h) (by decide)
    clear ho
    have K2 := Lib.hid (K1.out.new 30 ((newT kind sec vou tt).cs s1 q1))
    clear K1
    have al1 : Below y1.heap.size y1 (y1.alloc (.cells ((newT kind sec vou tt).cs s1 q1) 30)) := (Below.refl _ _).alloc (Nat.le_refl _) _
    have R1 := Lib.hid (hr1.stay al1)
    have Q1 := Lib.hid (hq1.stay al1)
    clear hr1 hq1 al1
    have l0 := K2.out.c (b := x.heap.size) (T := 24) (vs := #[.int .i64 sec, .int .i64 vou]) (by simp) 0 _ rfl
    have l1 := K2.out.c (b := x.heap.size) (T := 24) (vs := #[.int .i64 sec, .int .i64 vou]) (by simp) 1 _ rfl
    go_wp2_with fail
    refine (implTNew_any kind sec vou tt _ (HF.out.stay K2.out.1)).mono ?_
    rintro e y2 ⟨h1, hb⟩
    have K3 := Lib.hid (K2.out.stay hb)
    have R1 := Lib.hid (R1.out.stay hb)
    have Q1 := Lib.hid (Q1.out.stay hb)
    clear hb K2 l0 l1
    rcases h1 with ⟨h, -⟩ | ⟨-, s2, q2, rfl, hr1, hq1, -, -⟩
    case inl => exact absurd (HO.out.symm.trans h) (by decide)
    have K4 := Lib.hid (K3.out.new 30 ((newT kind sec vou tt).cs s2 q2))
    clear K3
    have al1 : Below y2.heap.size y2 (y2.alloc (.cells ((newT kind sec vou tt).cs s2 q2) 30)) := (Below.refl _ _).alloc (Nat.le_refl _) _
    have R2 := Lib.hid (hr1.stay al1)
    have Q2 := Lib.hid (hq1.stay al1)
    have R1 := Lib.hid (R1.out.stay al1)
    have Q1 := Lib.hid (Q1.out.stay al1)
    clear hr1 hq1 al1
    have c0 := K4.out.c (b := y1.heap.size) (T := 30) (vs := ((newT kind sec vou tt).cs s1 q1)) (by simp) 0 _ rfl
    have c1 := K4.out.c (b := y1.heap.size) (T := 30) (vs := ((newT kind sec vou tt).cs s1 q1)) (by simp) 1 _ rfl
    have c2 := K4.out.c (b := y1.heap.size) (T := 30) (vs := ((newT kind sec vou tt).cs s1 q1)) (by simp) 2 _ rfl
    have c3 := K4.out.c (b := y1.heap.size) (T := 30) (vs := ((newT kind sec vou tt).cs s1 q1)) (by simp) 3 _ rfl
    have c4 := K4.out.c (b := y1.heap.size) (T := 30) (vs := ((newT kind sec vou tt).cs s1 q1)) (by simp) 4 _ rfl
    have c5 := K4.out.c (b := y1.heap.size) (T := 30) (vs := ((newT kind sec vou tt).cs s1 q1)) (by simp) 5 _ rfl
    have c6 := K4.out.c (b := y1.heap.size) (T := 30) (vs := ((newT kind sec vou tt).cs s1 q1)) (by simp) 6 _ rfl
    have c7 := K4.out.c (b := y1.heap.size) (T := 30) (vs := ((newT kind sec vou tt).cs s1 q1)) (by simp) 7 _ rfl
    have d0 := K4.out.c (b := y2.heap.size) (T := 30) (vs := ((newT kind sec vou tt).cs s2 q2)) (by simp) 0 _ rfl
    have d1 := K4.out.c (b := y2.heap.size) (T := 30) (vs := ((newT kind sec vou tt).cs s2 q2)) (by simp) 1 _ rfl
    have d2 := K4.out.c (b := y2.heap.size) (T := 30) (vs := ((newT kind sec vou tt).cs s2 q2)) (by simp) 2 _ rfl
    have d3 := K4.out.c (b := y2.heap.size) (T := 30) (vs := ((newT kind sec vou tt).cs s2 q2)) (by simp) 3 _ rfl
    have d4 := K4.out.c (b := y2.heap.size) (T := 30) (vs := ((newT kind sec vou tt).cs s2 q2)) (by simp) 4 _ rfl
    have d5 := K4.out.c (b := y2.heap.size) (T := 30) (vs := ((newT kind sec vou tt).cs s2 q2)) (by simp) 5 _ rfl
    have d6 := K4.out.c (b := y2.heap.size) (T := 30) (vs := ((newT kind sec vou tt).cs s2 q2)) (by simp) 6 _ rfl
    have d7 := K4.out.c (b := y2.heap.size) (T := 30) (vs := ((newT kind sec vou tt).cs s2 q2)) (by simp) 7 _ rfl
    go_wp2_with fail
    refine (ldThing_any (newT kind sec vou tt) (newT kind sec vou tt) s2 q2 s1 q1 _ R2.out Q2.out R1.out Q1.out (Nat.le_trans (newT_len _ _ _ _) (by decide)) (show (0 : Nat) ≤ _ by decide)).mono ?_
    rintro e y3 ⟨v, rfl, hv, hb⟩
    obtain rfl : v = true := hv.2 rfl
    have K5 := Lib.hid (K4.out.stay hb)
    have R2 := Lib.hid (R2.out.stay hb)
    have Q2 := Lib.hid (Q2.out.stay hb)
    clear hb K4 hv c0 c1 c2 c3 c4 c5 c6 c7 d0 d1 d2 d3 d4 d5 d6 d7
    have d0 := K5.out.c (b := y2.heap.size) (T := 30) (vs := ((newT kind sec vou tt).cs s2 q2)) (by simp) 0 _ rfl
    have d1 := K5.out.c (b := y2.heap.size) (T := 30) (vs := ((newT kind sec vou tt).cs s2 q2)) (by simp) 1 _ rfl
    have d2 := K5.out.c (b := y2.heap.size) (T := 30) (vs := ((newT kind sec vou tt).cs s2 q2)) (by simp) 2 _ rfl
    have d3 := K5.out.c (b := y2.heap.size) (T := 30) (vs := ((newT kind sec vou tt).cs s2 q2)) (by simp) 3 _ rfl
    have d4 := K5.out.c (b := y2.heap.size) (T := 30) (vs := ((newT kind sec vou tt).cs s2 q2)) (by simp) 4 _ rfl
    have d5 := K5.out.c (b := y2.heap.size) (T := 30) (vs := ((newT kind sec vou tt).cs s2 q2)) (by simp) 5 _ rfl
    have d6 := K5.out.c (b := y2.heap.size) (T := 30) (vs := ((newT kind sec vou tt).cs s2 q2)) (by simp) 6 _ rfl
    have d7 := K5.out.c (b := y2.heap.size) (T := 30) (vs := ((newT kind sec vou tt).cs s2 q2)) (by simp) 7 _ rfl
    have HN := Lib.hid R2.out.len
    obtain ⟨sa, sn, sc⟩ := s2
    have hsn : sn ≤ 4 := by have := HN.out; simp only at this; rw [this]; exact newT_len _ _ _ _
    go_wp2
    go_loopw [10] (fun i wr => ∃ k : Nat, k ≤ sn ∧ i = .int .i64 k ∧ wr = y3) (fun i _ => sn - (intOf i).toNat)
    case atStart => exact ⟨0, by omega, rfl, rfl⟩
    case round =>
      obtain ⟨k, hk, rfl, rfl⟩ := hrel
      by_cases hlt : k < sn
      · have hlt' : (k : Int) < (sn : Int) := by omega
        have hxl : k < (newT kind sec vou tt).slots.length := by rw [← HN.out]; exact hlt
        obtain ⟨b1, o1, a1, hA⟩ := R2.out.at hxl
        rw [newT_zero kind sec vou tt k hxl] at hA
        have m0 : wr.cell? ⟨b1, o1 + k * 5, none⟩ = some (.int .i64 0) := hA 0 _ rfl
        have m1 := hA 1 _ rfl
        have m2 := hA 2 _ rfl
        have m3 := hA 3 _ rfl
        have m4 := hA 4 _ rfl
        clear hA hxl
        simp only at a1
        subst a1
        go_wp2
        go_roundw
        case rel => exact ⟨k + 1, by omega, by go_num, by first | rfl | trivial⟩
        case measure => simp [intOf]; omega
      · have hlt' : ¬ (k : Int) < (sn : Int) := by omega
        have HT := Lib.hid (newT_to kind sec vou tt HO.out)
        go_wp2_with fail
        refine (implTOk_val HO.out _ R2.out Q2.out (HF.out.stay K5.out.1)).mono ?_
        rintro e y4 ⟨rfl, hb⟩
        have K6 := Lib.hid (K5.out.stay hb)
        clear hb K5 hlt' d0 d1 d2 d3 d4 d5 d6 d7
        have d0 : y4.cell? ⟨y2.heap.size, 0, none⟩ = some (.int .i64 kind) := K6.out.c (b := y2.heap.size) (T := 30) (vs := ((newT kind sec vou tt).cs ⟨sa, sn, sc⟩ q2)) (by simp) 0 _ rfl
        have d1 : y4.cell? ⟨y2.heap.size, 1, none⟩ = some (.int .i64 sec) := K6.out.c (b := y2.heap.size) (T := 30) (vs := ((newT kind sec vou tt).cs ⟨sa, sn, sc⟩ q2)) (by simp) 1 _ rfl
        have d2 : y4.cell? ⟨y2.heap.size, 2, none⟩ = some (.int .i64 vou) := K6.out.c (b := y2.heap.size) (T := 30) (vs := ((newT kind sec vou tt).cs ⟨sa, sn, sc⟩ q2)) (by simp) 2 _ rfl
        have d3 : y4.cell? ⟨y2.heap.size, 3, none⟩ = some (.int .i64 0) := K6.out.c (b := y2.heap.size) (T := 30) (vs := ((newT kind sec vou tt).cs ⟨sa, sn, sc⟩ q2)) (by simp) 3 _ rfl
        have d4 : y4.cell? ⟨y2.heap.size, 4, none⟩ = some (.int .i64 0) := K6.out.c (b := y2.heap.size) (T := 30) (vs := ((newT kind sec vou tt).cs ⟨sa, sn, sc⟩ q2)) (by simp) 4 _ rfl
        have d5 : y4.cell? ⟨y2.heap.size, 5, none⟩ = some (.slice sa sn sc) := K6.out.c (b := y2.heap.size) (T := 30) (vs := ((newT kind sec vou tt).cs ⟨sa, sn, sc⟩ q2)) (by simp) 5 _ rfl
        have d6 : y4.cell? ⟨y2.heap.size, 6, none⟩ = some (.slice q2.a q2.n q2.c) := K6.out.c (b := y2.heap.size) (T := 30) (vs := ((newT kind sec vou tt).cs ⟨sa, sn, sc⟩ q2)) (by simp) 6 _ rfl
        have d7 : y4.cell? ⟨y2.heap.size, 7, none⟩ = some (.int .i64 tt) := K6.out.c (b := y2.heap.size) (T := 30) (vs := ((newT kind sec vou tt).cs ⟨sa, sn, sc⟩ q2)) (by simp) 7 _ rfl
        have l0 := K6.out.c (b := x.heap.size) (T := 24) (vs := #[.int .i64 sec, .int .i64 vou]) (by simp) 0 _ rfl
        have l1 := K6.out.c (b := x.heap.size) (T := 24) (vs := #[.int .i64 sec, .int .i64 vou]) (by simp) 1 _ rfl
        have hq0 : q2.n = 0 := Q2.out.len
        rw [hq0] at d6
        clear hq0
        go_wp2
        go_ret
        exact ⟨by rw [HT.out]; simp, K6.out.1⟩
end Go.Proofs.YtnfalnmidddkjaaDoor
