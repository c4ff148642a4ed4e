/-
  The model's TableOk.
-/
import Derived.Test.YtpahahonopiblaaDoorTOk
import Derived.Test.YtpahahonopiblaaDoorTabD
import Derived.Deep.DeepCutAuto
import Derived.Deep.Light
import Derived.Deep.QuietTactic
import Derived.BigQuiet
namespace Go.Proofs.YtpahahonopiblaaDoor
open Go.RowKit
set_option linter.unusedVariables false

theorem goB {w x y : World} (h : Below w.heap.size w x) (hb : Below x.heap.size x y) : Below w.heap.size w y := h.trans (hb.mono h.size)

set_option maxRecDepth 100000 in
set_option maxHeartbeats 4000000 in
theorem specTabOk_ne (l : List T8) (b o c : Nat) (w : World) (ht : Tb w b o l) (hc : l.length ≤ c) (hz : l.length ≤ 1048576) (hzs : ∀ i (h : i < l.length), l[i].slots.length ≤ 1048576) :
    Calls Tryd.prog 28 #[.slice (some ⟨b, o, none⟩) l.length c] w fun e w' => e = .returned (.bool (tabOk l)) ∧ Below w.heap.size w w' := by
  have HT := Lib.hid ht
  have HZ := Lib.hid hzs
  clear ht hzs
  go_enter Tryd.func28, Tryd.ntmps28
  go_wp2
  go_loopw [3] (fun i wr => ∃ k : Nat, k ≤ l.length ∧ i = .int .i64 k ∧ Below w.heap.size w wr ∧ ∀ i (h : i < l.length), i < k → elemOk l l[i] = true) (fun i _ => l.length - (intOf i).toNat)
  case atStart => exact ⟨0, by omega, rfl, Below.refl _ _, fun i h hi => absurd hi (by omega)⟩
  case round =>
    obtain ⟨k, hk, rfl, B0, hok⟩ := hrel
    have HOK := Lib.hid hok
    have HB0 := Lib.hid B0
    clear hok B0
    by_cases hlt : k < l.length
    · have hlt' : (k : Int) < (l.length : Int) := by omega
      obtain ⟨ss, qs, hR, hQ, hA⟩ := (HT.out.stay HB0.out) k hlt
      have d0 : wr.cell? ⟨b, o + k * 8, none⟩ = some (.int .i64 (l[k]).kind) := hA 0 _ rfl
      have d1 : wr.cell? ⟨b, o + k * 8 + 1, none⟩ = some (.int .i64 (l[k]).sec) := hA 1 _ rfl
      have d2 : wr.cell? ⟨b, o + k * 8 + 2, none⟩ = some (.int .i64 (l[k]).vou) := hA 2 _ rfl
      have d3 : wr.cell? ⟨b, o + k * 8 + 3, none⟩ = some (.int .i64 (l[k]).vers) := hA 3 _ rfl
      have d4 : wr.cell? ⟨b, o + k * 8 + 4, none⟩ = some (.int .i64 (l[k]).num) := hA 4 _ rfl
      have d5 : wr.cell? ⟨b, o + k * 8 + 5, none⟩ = some (.slice ss.a ss.n ss.c) := hA 5 _ rfl
      have d6 : wr.cell? ⟨b, o + k * 8 + 6, none⟩ = some (.slice qs.a qs.n qs.c) := hA 6 _ rfl
      have d7 : wr.cell? ⟨b, o + k * 8 + 7, none⟩ = some (.int .i64 (l[k]).to) := hA 7 _ rfl
      have HR := Lib.hid hR
      have HQ := Lib.hid hQ
      clear hR hQ hA
      go_upto_region 4 with fail
      go_cut [48] (fun s48 wx => s48 = .bool (!(okT l[k] && gateOk l l[k])) ∧ Below w.heap.size w wx)
      case first =>
        cases h1 : okT l[k]
        · have H1 := Lib.hid h1
          clear h1
          go_wp2_with fail
          refine (specTOk_any l[k] ss qs _ HR.out HQ.out (HZ.out k hlt)).mono ?_
          rintro e y ⟨rfl, hb⟩
          rw [H1.out]
          go_wp2
          go_meet
          exact ⟨by simp [H1.out], goB HB0.out hb⟩
        · have H1 := Lib.hid h1
          clear h1
          go_wp2_with fail
          refine (specTOk_any l[k] ss qs _ HR.out HQ.out (HZ.out k hlt)).mono ?_
          rintro e y ⟨rfl, hb⟩
          rw [H1.out]
          have HB1 := Lib.hid (goB HB0.out hb)
          have hall := HT.out.stay HB1.out
          clear hb d0 d1 d2 d3 d4 d5 d6 d7 HR HQ
          obtain ⟨ss', qs', -, -, hA'⟩ := hall k hlt
          have d0 : y.cell? ⟨b, o + k * 8, none⟩ = some (.int .i64 (l[k]).kind) := hA' 0 _ rfl
          have d7 : y.cell? ⟨b, o + k * 8 + 7, none⟩ = some (.int .i64 (l[k]).to) := hA' 7 _ rfl
          clear hA'
          by_cases hk5 : (l[k]).kind = 5
          · have hk5' : ((l[k]).kind == 5) = true := by simpa using hk5
            obtain ⟨t1, t8⟩ := okT_to H1.out hk5
            by_cases hto : (l.length : Int) < (l[k]).to
            · clear hall
              go_wp2
              go_meet
              exact ⟨by simp [H1.out, gateOk, hk5, hto], HB1.out⟩
            · obtain ⟨j, hj⟩ : ∃ j : Nat, (l[k]).to - 1 = j := ⟨((l[k]).to - 1).toNat, by omega⟩
              have hjl : j < l.length := by omega
              have hw : wrap64 ((l[k]).to - 1) = (j : Int) := by unfold wrap64; omega
              obtain ⟨ss2, qs2, -, -, hA2⟩ := hall j hjl
              have f0 : y.cell? ⟨b, o + j * 8, none⟩ = some (.int .i64 (l[j]).kind) := hA2 0 _ rfl
              have hkat := kindAt_of hjl hj
              have HJ := Lib.hid hj
              have HK := Lib.hid hkat
              have hjl' : (j : Int) < (l.length : Int) := by omega
              clear hall hA2 hj hkat t1 t8
              go_wp2
              go_meet
              exact ⟨by simp [H1.out, gateOk, hk5, HK.out], HB1.out⟩
          · have hk5' : ((l[k]).kind == 5) = false := by simpa using hk5
            clear hall
            go_wp2
            go_meet
            exact ⟨by simp [H1.out, gateOk, hk5], HB1.out⟩
      case rest =>
      obtain ⟨rfl, B1⟩ := hcut
      have HB1 := Lib.hid B1
      clear B1 d0 d1 d2 d3 d4 d5 d6 d7 HR HQ
      cases g1 : (okT l[k] && gateOk l l[k])
      · have G1 := Lib.hid g1
        clear g1
        go_wp2
        go_ret
        refine ⟨?_, HB1.out⟩
        have hb : elemOk l l[k] = false := by
          have := G1.out
          simp only [elemOk]
          cases h1 : okT l[k] <;> cases h2 : gateOk l l[k] <;> simp_all
        simp [tabOk, all_bad hlt hb]
      · have G1 := Lib.hid g1
        clear g1
        have O1 : okT l[k] = true := by have := G1.out; simp at this; exact this.1
        have O2 : gateOk l l[k] = true := by have := G1.out; simp at this; exact this.2
        have hs4 := okT_slots O1
        have HO1 := Lib.hid O1
        have HO2 := Lib.hid O2
        clear O1 O2
        go_wp2
        go_loopw [4] (fun i wr2 => ∃ m : Nat, m ≤ (l[k]).slots.length ∧ i = .int .i64 m ∧ Below w.heap.size w wr2 ∧ ∀ i (h : i < (l[k]).slots.length), i < m → rightIn l (l[k]).slots[i] = true) (fun i _ => (l[k]).slots.length - (intOf i).toNat)
        case atStart => exact ⟨0, by omega, rfl, HB1.out, fun i h hi => absurd hi (by omega)⟩
        case round =>
          obtain ⟨m, hm, rfl, B2, hok2⟩ := hrel
          have HOK2 := Lib.hid hok2
          have HB2 := Lib.hid B2
          clear hok2 B2
          obtain ⟨ss, qs, hR, -, hA⟩ := (HT.out.stay HB2.out) k hlt
          have hssn := hR.len
          have d5 : wr.cell? ⟨b, o + k * 8 + 5, none⟩ = some (.slice ss.a ss.n ss.c) := hA 5 _ rfl
          clear hA
          by_cases hml : m < (l[k]).slots.length
          · have hml' : (m : Int) < ((l[k]).slots.length : Int) := by omega
            obtain ⟨br, or, er, hc⟩ := hR.at hml
            have c0 : wr.cell? ⟨br, or + m * 5, none⟩ = some (.int .i64 ((l[k]).slots[m]).t) := hc 0 _ rfl
            have c1 := hc 1 _ rfl
            have c2 := hc 2 _ rfl
            have c3 := hc 3 _ rfl
            have c4 := hc 4 _ rfl
            clear hc hR
            have hbl := cell_lt d5
            have hrk := okT_right HO1.out hml
            obtain ⟨r0, r8⟩ := R5.bd hrk
            clear hrk
            generalize hr : (l[k]).slots[m] = r at *
            have HRR := Lib.hid hr
            clear hr
            go_upto_region 10 with fail
            by_cases h1 : (l.length : Int) < r.t
            · have h1' : decide ((l.length : Int) < r.t) = true := by simpa using h1
              have HI := Lib.hid (show rightIn l (l[k]).slots[m] = false by rw [HRR.out]; simp [rightIn, h1])
              go_quiet (fail)
              go_wp2
              go_ret
              refine ⟨?_, goB HB2.out (drewNB (((Below.refl _ _).alloc (Nat.le_refl _) _)) _)⟩
              have hb : elemOk l l[k] = false := by simp [elemOk, all_bad hml HI.out]
              simp [tabOk, all_bad hlt hb]
            have h1' : decide ((l.length : Int) < r.t) = false := by simpa using h1
            by_cases h2 : 0 < r.t
            · have h2' : decide ((0 : Int) < r.t) = true := by simpa using h2
              obtain ⟨j, hj⟩ : ∃ j : Nat, r.t - 1 = j := ⟨(r.t - 1).toNat, by omega⟩
              have hjl : j < l.length := by omega
              have hjl' : (j : Int) < (l.length : Int) := by omega
              have hw : wrap64 (r.t - 1) = (j : Int) := by unfold wrap64; omega
              obtain ⟨ss2, qs2, -, -, hA2⟩ := (HT.out.stay HB2.out) j hjl
              have f3 : wr.cell? ⟨b, o + j * 8 + 3, none⟩ = some (.int .i64 (l[j]).vers) := hA2 3 _ rfl
              have HV := Lib.hid (versAt_of hjl hj)
              clear hA2
              cases h3 : decide ((l[j]).vers < r.v)
              · have HI := Lib.hid (show rightIn l (l[k]).slots[m] = true by rw [HRR.out]; simp only [rightIn, h1', h2', HV.out, h3]; rfl)
                go_quiet (fail)
                go_wp2
                go_roundw
                case rel =>
                  refine ⟨m + 1, by omega, by go_num, goB HB2.out (drewNB (((Below.refl _ _).alloc (Nat.le_refl _) _)) _), fun i h hi => ?_⟩
                  by_cases hik : i = m
                  · subst hik; exact HI.out
                  · exact HOK2.out i h (by omega)
                case measure => simp [intOf]; omega
              · have HI := Lib.hid (show rightIn l (l[k]).slots[m] = false by rw [HRR.out]; simp only [rightIn, h1', h2', HV.out, h3]; rfl)
                go_quiet (fail)
                go_wp2
                go_ret
                refine ⟨?_, goB HB2.out (drewNB (((Below.refl _ _).alloc (Nat.le_refl _) _)) _)⟩
                have hb : elemOk l l[k] = false := by simp [elemOk, all_bad hml HI.out]
                simp [tabOk, all_bad hlt hb]
            · have h2' : decide ((0 : Int) < r.t) = false := by simpa using h2
              have HI := Lib.hid (show rightIn l (l[k]).slots[m] = true by rw [HRR.out]; simp only [rightIn, h1', h2']; rfl)
              go_quiet (fail)
              go_wp2
              go_roundw
              case rel =>
                refine ⟨m + 1, by omega, by go_num, goB HB2.out (drewNB (((Below.refl _ _).alloc (Nat.le_refl _) _)) _), fun i h hi => ?_⟩
                by_cases hik : i = m
                · subst hik; exact HI.out
                · exact HOK2.out i h (by omega)
              case measure => simp [intOf]; omega
          · have hml' : ¬ (m : Int) < ((l[k]).slots.length : Int) := by omega
            have HE := Lib.hid (show elemOk l l[k] = true by
              simp only [elemOk, HO1.out, HO2.out, Bool.true_and]
              exact all_upto (fun i h _ => HOK2.out i h (by omega)))
            clear hR HOK2 hml hm
            go_wp2
            go_roundw
            case rel =>
              refine ⟨k + 1, by omega, by go_num, HB2.out, fun i h hi => ?_⟩
              by_cases hik : i = k
              · subst hik; exact HE.out
              · exact HOK.out i h (by omega)
            case measure => simp [intOf]; omega
    · have hlt' : ¬ (k : Int) < (l.length : Int) := by omega
      have HE := Lib.hid (show l.all (elemOk l) = true from all_upto (fun i h _ => HOK.out i h (by omega)))
      go_wp2_with (go_at_call 68; refine (l6In_any _ _ _ _).mono ?_; rintro e w' ⟨rfl, rfl⟩)
      go_ret
      exact ⟨by simp [tabOk, HE.out, inR], HB0.out⟩

set_option maxHeartbeats 1000000 in
theorem specTabOk_nil (a : Option Addr) (c : Nat) (w : World) :
    Calls Tryd.prog 28 #[.slice a 0 c] w fun e w' => e = .returned (.bool (tabOk [])) ∧ Below w.heap.size w w' := by
  go_enter Tryd.func28, Tryd.ntmps28
  go_wp2
  go_loop [3] (fun i => i = .int .i64 0) (fun _ => 0)
  case atStart => rfl
  case round =>
    subst hrel
    go_wp2_with (go_at_call 68; refine (l6In_any _ _ _ _).mono ?_; rintro e w' ⟨rfl, rfl⟩)
    go_ret
    exact ⟨rfl, Below.refl _ _⟩

theorem specTabOk_any (l : List T8) (s : Sl) (w : World) (ht : HasT w s l) (hz : l.length ≤ 1048576) (hzs : ∀ i (h : i < l.length), l[i].slots.length ≤ 1048576) :
    Calls Tryd.prog 28 #[.slice s.a s.n s.c] w fun e w' => e = .returned (.bool (tabOk l)) ∧ Below w.heap.size w w' := by
  obtain ⟨h1, h2, h3⟩ := ht
  rcases h3 with rfl | ⟨b, o, e, h3⟩
  · rw [h1]; exact specTabOk_nil s.a s.c w
  · rw [h1, e]; exact specTabOk_ne l b o s.c w h3 (by omega) hz hzs
end Go.Proofs.YtpahahonopiblaaDoor
