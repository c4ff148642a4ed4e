/-
  The model's ThingOk.
-/
import Derived.Test.YtpahahonopiblaaDoorTOkD
import Derived.Deep.DeepCutAuto
import Derived.Deep.Light
namespace Go.Proofs.YtpahahonopiblaaDoor
open Go.RowKit
set_option linter.unusedVariables false

set_option maxRecDepth 100000 in
set_option maxHeartbeats 4000000 in
theorem specTOk_any (x : T8) (s q : Sl) (w : World) (hs : HasR w s x.slots) (hq : HasQ w q x.queue) (hz : x.slots.length ≤ 1048576) :
    Calls Tryd.prog 70 #[x.val s q] w fun e w' => e = .returned (.bool (okT x)) ∧ Below w.heap.size w w' := by
  have hsn := hs.len
  have hqn := hq.len
  have HS := Lib.hid hs
  have HQ := Lib.hid hq
  have K0 := (Kn.refl (w := w)).new 37 (x.cs s q)
  clear hs hq
  go_enter Tryd.func70, Tryd.ntmps70
  go_upto_region 1 with fail
  go_cut [27] (fun s27 wx => s27 = .bool (!okT1 x) ∧ Kn w [(w.heap.size, 37, x.cs s q)] wx)
  case first =>
    cases h1 : inR x.kind 1 5
    · have H1 := Lib.hid h1
      clear h1
      go_wp2_with (go_at_call 68; refine (l6In_val H1.out _).mono ?_; rintro e w' ⟨rfl, rfl⟩)
      go_meet
      exact ⟨by simp [okT1, H1.out], K0⟩
    have H1 := Lib.hid h1
    clear h1
    go_wp2_with (go_at_call 68; refine (l6In_val H1.out _).mono ?_; rintro e w' ⟨rfl, rfl⟩)
    cases h2 : okL x.sec x.vou
    · have H2 := Lib.hid h2
      clear h2
      refine (specOk_any x.sec x.vou _).mono ?_
      rintro e y ⟨rfl, hb⟩
      rw [H2.out]
      have K1 := K0.stay hb
      clear K0 hb
      go_wp2
      go_meet
      exact ⟨by simp [okT1, H1.out, H2.out], K1⟩
    have H2 := Lib.hid h2
    clear h2
    refine (specOk_any x.sec x.vou _).mono ?_
    rintro e y ⟨rfl, hb⟩
    rw [H2.out]
    have K1 := K0.stay hb
    have c0 := K1.c (b := w.heap.size) (T := 37) (vs := x.cs s q) (by simp) 0 _ rfl
    have c1 := K1.c (b := w.heap.size) (T := 37) (vs := x.cs s q) (by simp) 1 _ rfl
    have c2 := K1.c (b := w.heap.size) (T := 37) (vs := x.cs s q) (by simp) 2 _ rfl
    have c3 := K1.c (b := w.heap.size) (T := 37) (vs := x.cs s q) (by simp) 3 _ rfl
    have c4 := K1.c (b := w.heap.size) (T := 37) (vs := x.cs s q) (by simp) 4 _ rfl
    have c5 := K1.c (b := w.heap.size) (T := 37) (vs := x.cs s q) (by simp) 5 _ rfl
    have c6 := K1.c (b := w.heap.size) (T := 37) (vs := x.cs s q) (by simp) 6 _ rfl
    have c7 := K1.c (b := w.heap.size) (T := 37) (vs := x.cs s q) (by simp) 7 _ rfl
    clear K0 hb
    cases h3 : inR x.vers 0 5
    · have H3 := Lib.hid h3
      clear h3
      go_wp2_with (go_at_call 68; refine (l6In_val H3.out _).mono ?_; rintro e w' ⟨rfl, rfl⟩)
      go_meet
      exact ⟨by simp [okT1, H1.out, H2.out, H3.out], K1⟩
    have H3 := Lib.hid h3
    clear h3
    go_wp2_with (go_at_call 68; refine (l6In_val H3.out _).mono ?_; rintro e w' ⟨rfl, rfl⟩)
    go_meet
    exact ⟨by simp [okT1, H1.out, H2.out, H3.out], K1⟩
  case rest =>
  obtain ⟨rfl, K1⟩ := hcut
  clear K0
  cases g1 : okT1 x
  · have G1 := Lib.hid g1
    clear g1
    go_wp2
    go_ret
    exact ⟨by simp [okT, G1.out], K1.1⟩
  have G1 := Lib.hid g1
  clear g1
  have c0 := K1.c (b := w.heap.size) (T := 37) (vs := x.cs s q) (by simp) 0 _ rfl
  have c1 := K1.c (b := w.heap.size) (T := 37) (vs := x.cs s q) (by simp) 1 _ rfl
  have c2 := K1.c (b := w.heap.size) (T := 37) (vs := x.cs s q) (by simp) 2 _ rfl
  have c3 := K1.c (b := w.heap.size) (T := 37) (vs := x.cs s q) (by simp) 3 _ rfl
  have c4 := K1.c (b := w.heap.size) (T := 37) (vs := x.cs s q) (by simp) 4 _ rfl
  have c5 := K1.c (b := w.heap.size) (T := 37) (vs := x.cs s q) (by simp) 5 _ rfl
  have c6 := K1.c (b := w.heap.size) (T := 37) (vs := x.cs s q) (by simp) 6 _ rfl
  have c7 := K1.c (b := w.heap.size) (T := 37) (vs := x.cs s q) (by simp) 7 _ rfl
  have HK1 := Lib.hid K1
  clear K1
  go_upto_if 30 with fail
  go_cut [3] (fun s3 wx => s3 = .int .i64 (leastN x) ∧ wx = wc)
  case first =>
    by_cases hk : x.kind = 3
    · have hk' : (x.kind == 3) = true := by simpa using hk
      go_wp2
      go_meet
      exact ⟨by simp [leastN, hk], rfl⟩
    · have hk' : (x.kind == 3) = false := by simpa using hk
      go_wp2
      go_meet
      exact ⟨by simp [leastN, hk], rfl⟩
  case rest =>
  obtain ⟨rfl, rfl⟩ := hcut
  go_upto_region 6 with fail
  go_cut [65] (fun s65 wx => s65 = .bool (!okT2 x) ∧ wx = wc)
  case first =>
    cases h1 : inR x.num (leastN x) 99
    · have H1 := Lib.hid h1
      clear h1
      go_wp2_with (go_at_call 68; refine (l6In_val H1.out _).mono ?_; rintro e w' ⟨rfl, rfl⟩)
      go_meet
      exact ⟨by simp [okT2, H1.out], rfl⟩
    have H1 := Lib.hid h1
    clear h1
    go_wp2_with (go_at_call 68; refine (l6In_val H1.out _).mono ?_; rintro e w' ⟨rfl, rfl⟩)
    all_goals go_meet
    all_goals
      go_light
      exact ⟨by rw [okT2_of H1.out]; simp [*], rfl⟩
  case rest =>
  obtain ⟨rfl, rfl⟩ := hcut
  cases g2 : okT2 x
  · have G2 := Lib.hid g2
    clear g2
    go_wp2
    go_ret
    exact ⟨by simp [okT, G1.out, G2.out], HK1.out.1⟩
  have G2 := Lib.hid g2
  clear g2
  have HQ1 := Lib.hid (HQ.out.stay HK1.out.1)
  have hqz : (x.queue.length : Int) ≤ 3 := by have := G1.out; simp [okT1] at this; omega
  have hsz := HS.out.2.1
  clear HQ
  go_wp2
  go_loop [4] (fun i => ∃ k : Nat, k ≤ x.queue.length ∧ i = .int .i64 k ∧ qOk x.queue k) (fun i => x.queue.length - (intOf i).toNat)
  case atStart => exact ⟨0, by omega, rfl, fun i h hi => absurd hi (by omega)⟩
  case round =>
    obtain ⟨k, hk, rfl, hok⟩ := hrel
    have HOK := Lib.hid hok
    clear hok
    by_cases hlt : k < x.queue.length
    · have hlt' : (k : Int) < (x.queue.length : Int) := by omega
      obtain ⟨b, o, ea, hc⟩ := HQ1.out.at hlt
      cases h1 : inR (x.queue[k]) 0 99
      · have H1 := Lib.hid h1
        clear h1
        go_wp2_with (go_at_call 68; refine (l6In_val H1.out _).mono ?_; rintro e w' ⟨rfl, rfl⟩)
        go_ret
        exact ⟨by simp [okT, G1.out, G2.out, q_bad hlt H1.out], HK1.out.1⟩
      · have H1 := Lib.hid h1
        clear h1
        go_wp2_with (go_at_call 68; refine (l6In_val H1.out _).mono ?_; rintro e w' ⟨rfl, rfl⟩)
        go_round
        case rel =>
          refine ⟨trivial, ?_⟩
          repeat apply Exists.intro
          refine ⟨⟨k + 1, by omega, by go_num, fun i h hi => ?_⟩, rfl⟩
          by_cases hik : i = k
          · subst hik; exact H1.out
          · exact HOK.out i h (by omega)
        case measure => simp [intOf]; omega
    · have hlt' : ¬ (k : Int) < (x.queue.length : Int) := by omega
      have HJ := Lib.hid (show k = x.queue.length by omega)
      have HA := Lib.hid (qOk_all (HJ.out ▸ HOK.out))
      clear HOK hlt hk HQ1
      go_wp2
      clear hlt'
      go_loopw [5] (fun i wr => ∃ j : Nat, j ≤ x.slots.length ∧ i = .int .i64 j ∧ Kn w [(w.heap.size, 37, x.cs s q)] wr ∧ sOk x.slots j) (fun i _ => x.slots.length - (intOf i).toNat)
      case atStart => exact ⟨0, by omega, rfl, HK1.out, fun i h hi => absurd hi (by omega)⟩
      case round =>
        obtain ⟨j, hj, rfl, K2, hok⟩ := hrel
        have HOK := Lib.hid hok
        have HS2 := Lib.hid (HS.out.stay K2.1)
        clear hok c0 c1 c2 c3 c4 c5 c6 c7 HK1
        have c0 := K2.c (b := w.heap.size) (T := 37) (vs := x.cs s q) (by simp) 0 _ rfl
        have c1 := K2.c (b := w.heap.size) (T := 37) (vs := x.cs s q) (by simp) 1 _ rfl
        have c2 := K2.c (b := w.heap.size) (T := 37) (vs := x.cs s q) (by simp) 2 _ rfl
        have c3 := K2.c (b := w.heap.size) (T := 37) (vs := x.cs s q) (by simp) 3 _ rfl
        have c4 := K2.c (b := w.heap.size) (T := 37) (vs := x.cs s q) (by simp) 4 _ rfl
        have c5 := K2.c (b := w.heap.size) (T := 37) (vs := x.cs s q) (by simp) 5 _ rfl
        have c6 := K2.c (b := w.heap.size) (T := 37) (vs := x.cs s q) (by simp) 6 _ rfl
        have c7 := K2.c (b := w.heap.size) (T := 37) (vs := x.cs s q) (by simp) 7 _ rfl
        have HK2 := Lib.hid K2
        clear K2
        by_cases hjl : j < x.slots.length
        · have hjl' : (j : Int) < (x.slots.length : Int) := by omega
          obtain ⟨b, o, ea, hc⟩ := HS2.out.at hjl
          have d0 : wr.cell? ⟨b, o + j * 5, none⟩ = some (.int .i64 (x.slots[j]).t) := hc 0 _ rfl
          have d1 := hc 1 _ rfl
          have d2 := hc 2 _ rfl
          have d3 := hc 3 _ rfl
          have d4 := hc 4 _ rfl
          clear hc
          cases h1 : (x.slots[j]).ok
          · have H1 := Lib.hid h1
            clear h1
            go_wp2_with fail
            refine (specROk_val H1.out _).mono ?_
            rintro e y ⟨rfl, hb⟩
            have K3 := HK2.out.stay hb
            clear hb
            go_wp2
            go_ret
            exact ⟨by simp [okT, G1.out, G2.out, HA.out, s_bad hjl H1.out], K3.1⟩
          · have H1 := Lib.hid h1
            clear h1
            go_wp2_with fail
            refine (specROk_val H1.out _).mono ?_
            rintro e y ⟨rfl, hb⟩
            have K3 := HK2.out.stay hb
            clear hb
            go_wp2
            go_roundw
            case rel =>
              refine ⟨j + 1, by omega, by go_num, K3, fun i h hi => ?_⟩
              by_cases hik : i = j
              · subst hik; exact H1.out
              · exact HOK.out i h (by omega)
            case measure => simp [intOf]; omega
        · have hjl' : ¬ (j : Int) < (x.slots.length : Int) := by omega
          have HJ2 := Lib.hid (show j = x.slots.length by omega)
          have HB := Lib.hid (sOk_all (HJ2.out ▸ HOK.out))
          clear HOK hjl hj HS2
          go_upto_region 18 with fail
          clear hjl'
          go_cut [114] (fun s114 wx => s114 = .bool (!okT3 x) ∧ wx = wr)
          case first =>
            cases h1 : hasS x.kind
            · have H1 := Lib.hid h1
              clear h1
              go_wp2_with (go_at_call 105; refine (l3Slots_val H1.out _).mono ?_; rintro e w' ⟨rfl, rfl⟩)
              all_goals go_meet
              all_goals
                go_light
                exact ⟨by first | (simp [okT3, H1.out, *]; done) | (simp [okT3, H1.out, *]; rfl), rfl⟩
            · have H1 := Lib.hid h1
              clear h1
              go_wp2_with (go_at_call 105; refine (l3Slots_val H1.out _).mono ?_; rintro e w' ⟨rfl, rfl⟩)
              all_goals go_meet
              all_goals
                go_light
                exact ⟨by first | (simp [okT3, H1.out, *]; done) | (simp [okT3, H1.out, *]; rfl), rfl⟩
          case rest =>
          obtain ⟨rfl, rfl⟩ := hcut
          cases g3 : okT3 x
          · have G3 := Lib.hid g3
            clear g3
            go_wp2
            go_ret
            exact ⟨by simp [okT, G1.out, G2.out, HA.out, HB.out, G3.out], HK2.out.1⟩
          have G3 := Lib.hid g3
          clear g3
          cases h1 : inR x.to 1 8
          all_goals
            have H1 := Lib.hid h1
            clear h1
            go_wp2_with (go_at_call 68; refine (l6In_val H1.out _).mono ?_; rintro e w' ⟨rfl, rfl⟩)
            all_goals go_ret
            all_goals
              go_light
              exact ⟨by simp [okT, G1.out, G2.out, HA.out, HB.out, G3.out, okT4, H1.out, *], HK2.out.1⟩
end Go.Proofs.YtpahahonopiblaaDoor
