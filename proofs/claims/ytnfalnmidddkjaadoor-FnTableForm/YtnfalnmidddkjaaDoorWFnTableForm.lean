/-
  The walk of laws.FnTableForm.
-/
import Derived.Test.YtnfalnmidddkjaaDoorDrawTbO
import Derived.Test.YtnfalnmidddkjaaDoorThgI
namespace Go.Proofs.YtnfalnmidddkjaaDoor
open Go.RowKit
set_option maxRecDepth 100000
set_option linter.unusedVariables false

set_option maxHeartbeats 2000000 in
theorem implTabOk_long (a : Option Addr) (n c : Nat) (h : 8 < n) (w : World) :
    Calls Tryd.prog 23 #[.slice a n c] w fun e w' => e = .returned (.bool false) ∧ Below w.heap.size w w' := by
  have h1 : ¬ (n : Int) < 1 := by omega
  have h8 : (8 : Int) < (n : Int) := by omega
  clear h
  go_enter Tryd.func23, Tryd.ntmps23
  go_wp2
  refine bodyPost_ret (v := .bool false) (by simp [results, Tryd.results23, go_sem]) rfl ⟨rfl, ?_⟩
  exact ((Below.refl _ _).alloc (Nat.le_refl _) _).alloc (by simp) _
theorem tab_elem {l : List T8} (h : tabOk l = true) {i : Nat} (hi : i < l.length) : elemOk l l[i] = true := by
  simp only [tabOk, Bool.and_eq_true] at h
  exact List.all_eq_true.1 h.1 _ (List.getElem_mem hi)
/-- The cells of a table, one behind the other. -/
def tabCells (w : World) (g n : Nat) : List Value := (List.range (n * 8)).map fun j => (w.cell? ⟨g, j, none⟩).getD undef
theorem tabCells_at {w : World} {g : Nat} {l : List T8} (h : Tb w g 0 l) (j : Nat) (hj : j < l.length * 8) : ∃ v, w.cell? ⟨g, j, none⟩ = some v ∧ v.oneCell' = true := by
  have hi : j / 8 < l.length := by omega
  obtain ⟨ss, qs, -, -, hA⟩ := h (j / 8) hi
  have e : 0 + j / 8 * 8 + j % 8 = j := by omega
  have hm : j % 8 < 8 := Nat.mod_lt _ (by decide)
  generalize l[j / 8] = x at hA
  generalize j % 8 = m at e hm
  have go : ∀ v, (x.cs ss qs)[m]? = some v → v.oneCell' = true → ∃ v, w.cell? ⟨g, j, none⟩ = some v ∧ v.oneCell' = true := fun v hv ho => ⟨v, by rw [← e]; exact hA m v hv, ho⟩
  match m, hm with
  | 0, _ => exact go _ rfl (by simp [Value.oneCell'])
  | 1, _ => exact go _ rfl (by simp [Value.oneCell'])
  | 2, _ => exact go _ rfl (by simp [Value.oneCell'])
  | 3, _ => exact go _ rfl (by simp [Value.oneCell'])
  | 4, _ => exact go _ rfl (by simp [Value.oneCell'])
  | 5, _ => exact go _ rfl (by simp [Value.oneCell'])
  | 6, _ => exact go _ rfl (by simp [Value.oneCell'])
  | 7, _ => exact go _ rfl (by simp [Value.oneCell'])
/-- A table copied: 'append([]Thing{}, t...)'. -/
theorem append_all (W : World) (g c : Nat) (l : List T8) (hT : Tb W g 0 l) (hl : l.length ≤ 8) (ty : TypeId) :
    ∃ v w' xs, (Builtin.append_ #[39, 39] ty #[.slice (some ⟨W.heap.size, 0, none⟩) 0 0, .slice (some ⟨g, 0, none⟩) l.length c]).run Tryd.prog (W.alloc (.cells #[] 30)) = .ok v w' ∧
      w'.ownsRow W.heap.size 30 8 v l.length xs ∧ Below W.heap.size W w' := by
  obtain ⟨i0, hi, hz0, hz1, hz2⟩ : ∃ i, Tryd.prog.info? 30 = some i ∧ i.zero = some (.agg #[.int .i64 0, .int .i64 0, .int .i64 0, .int .i64 0, .int .i64 0, .slice none 0 0, .slice none 0 0, .int .i64 0]) ∧ i.size = 8 ∧ i.bytes = 96 := by
    have h := infoTh
    cases hq : Tryd.prog.info? 30 with
    | none => simp [hq] at h
    | some i => simp [hq] at h; exact ⟨i, rfl, h⟩
  have hal : Below W.heap.size W (W.alloc (.cells #[] 30)) := (Below.refl _ _).alloc (Nat.le_refl _) _
  have hT1 := hT.stay hal
  have hown : (W.alloc (.cells #[] 30)).ownsRow W.heap.size 30 8 (.slice (some ⟨W.heap.size, 0, none⟩) 0 0) 0 [] :=
    ⟨rfl, .inr ⟨W.heap.size, 0, #[], rfl, Nat.le_refl _, Box.fresh W 30 _, Nat.le_refl _, by simp [maxLen], rfl, rfl⟩⟩
  obtain ⟨v', w', hr, h2, h3, -⟩ := run_append_own (P := Tryd.prog) (W.alloc (.cells #[] 30)) W.heap.size 39 ty 30 i0 _ 8 96 Tryd.underlying39 hi hz0 hz1 hz2 rfl (by decide)
    (.slice (some ⟨W.heap.size, 0, none⟩) 0 0) 0 [] hown ⟨g, 0, none⟩ l.length c (tabCells (W.alloc (.cells #[] 30)) g l.length) (by simp [tabCells])
    (fun j u hj => by
      have hjl : j < l.length * 8 := by have := (List.getElem?_eq_some_iff.1 hj).1; simpa [tabCells] using this
      obtain ⟨v, hv, -⟩ := tabCells_at hT1 j hjl
      rw [show (⟨g, 0, none⟩ : Addr).add j = ⟨g, j, none⟩ by unfold Addr.add; split <;> simp_all]
      simp [tabCells, hjl, hv] at hj
      rw [hv, hj])
    (fun u hu => by
      simp only [tabCells, List.mem_map, List.mem_range] at hu
      obtain ⟨j, hj, rfl⟩ := hu
      obtain ⟨v, hv, ho⟩ := tabCells_at hT1 j hj
      rw [hv]; exact ho)
    (by simp [maxLen]; omega) (by omega) (by simp)
  refine ⟨v', w', _, hr, by simpa using h2, ?_⟩
  exact ⟨h3.os.trans rfl, h3.tape.trans rfl, h3.output.trans rfl, by have := h3.size; simp at this; omega, fun k hk => (h3.block k (by simp; omega) (by simp [Value.ownBlock]; omega)).trans (Below.heap_alloc W _ k hk)⟩

set_option maxHeartbeats 16000000 in
theorem walk_FnTableForm (a0 : Option Addr) (len0 cap0 : Nat) (z0 : List Int) (w : World) (hKF : KF w) (w0 : IsRow .u8 w a0 len0 cap0 z0) :
    Calls Tryd.prog 5 #[.slice a0 len0 cap0] w fun e w' => e = .returned (.bool true) ∧ Below w.heap.size w w' := by
  by_cases g0 : (1048576 : Int) < (len0 : Int)
  · go_enter Tryd.func5, Tryd.ntmps5
    go_wp2
    go_ret
    exact ⟨rfl, Below.refl _ _⟩
  have W0 := Lib.hid w0
  have HF := Lib.hid hKF
  clear w0 hKF
  go_enter Tryd.func5, Tryd.ntmps5
  go_wp2_with fail
  refine (drawTbO_any a0 len0 cap0 z0 _ W0.out).mono ?_
  rintro e y0 ⟨g, c, l, rfl, hT, l3, l8, hzs, hb⟩
  have B0 := Lib.hid hb
  have T0 := Lib.hid hT
  have HZS := Lib.hid hzs
  have hz : l.length ≤ 1048576 := by omega
  clear W0 hb hT hzs
  obtain ⟨v, hv⟩ : ∃ v, tabOk l = v := ⟨_, rfl⟩
  have HV := Lib.hid hv
  clear hv
  go_wp2_with fail
  refine (implTabOk_val (s := ⟨some ⟨g, 0, none⟩, l.length, c⟩) HV.out _ T0.out (HF.out.stay B0.out) hz).mono ?_
  rintro e y1 ⟨rfl, hb⟩
  have B1 := Lib.hid (goB B0.out hb)
  have T1 := Lib.hid (T0.out.stay hb)
  clear hb B0 T0
  go_wp2_with fail
  refine (specTabOk_val (s := ⟨some ⟨g, 0, none⟩, l.length, c⟩) HV.out _ T1.out hz HZS.out).mono ?_
  rintro e y2 ⟨rfl, hb⟩
  have B2 := Lib.hid (goB B1.out hb)
  have T2 := Lib.hid (T1.out.stay hb)
  clear hb B1 T1
  cases v
  · go_wp2_with fail
    refine (specTabOk_val (s := ⟨some ⟨g, 0, none⟩, l.length, c⟩) HV.out _ T2.out hz HZS.out).mono ?_
    rintro e y3 ⟨rfl, hb⟩
    have B3 := Lib.hid (goB B2.out hb)
    clear hb
    go_wp2
    go_ret
    exact ⟨rfl, B3.out⟩
  have TB2 := Lib.hid (show Tb y2 g 0 l by
    rcases T2.out.2.2 with h | ⟨b, o, e, h⟩
    · rw [h] at l3; simp at l3
    · simp only [Option.some.injEq, Addr.mk.injEq] at e
      obtain ⟨rfl, rfl, -⟩ := e
      exact h)
  clear T2
  go_wp2
  go_loopw [5] (fun i wr => ∃ k : Nat, k ≤ l.length ∧ i = .int .i64 k ∧ Below y2.heap.size y2 wr) (fun i _ => l.length - (intOf i).toNat)
  case atStart => exact ⟨0, by omega, rfl, Below.refl _ _⟩
  case round =>
    obtain ⟨k, hk, rfl, hB⟩ := hrel
    have HB := Lib.hid hB
    clear hB
    by_cases hlt : k < l.length
    · have hlt' : (k : Int) < (l.length : Int) := by omega
      have HE := Lib.hid (tab_elem HV.out hlt)
      have O1 : okT l[k] = true := by have := HE.out; simp only [elemOk, Bool.and_eq_true] at this; exact this.1
      have HO1 := Lib.hid O1
      have HG := Lib.hid (show gateOk l l[k] = true by have := HE.out; simp only [elemOk, Bool.and_eq_true] at this; exact this.2.1)
      have HRI := Lib.hid (show ∀ m (hm : m < (l[k]).slots.length), rightIn l (l[k]).slots[m] = true from fun m hm => by
        have := HE.out
        simp only [elemOk, Bool.and_eq_true, List.all_eq_true] at this
        exact this.2.2 _ (List.getElem_mem hm))
      have hs4 := okT_slots O1
      clear O1 HE
      go_wp2
      go_loopw [6] (fun i wr2 => ∃ m : Nat, m ≤ (l[k]).slots.length ∧ i = .int .i64 m ∧ Below y2.heap.size y2 wr2) (fun i _ => (l[k]).slots.length - (intOf i).toNat)
      case atStart => exact ⟨0, by omega, rfl, HB.out⟩
      case round =>
        obtain ⟨m, hm, rfl, B⟩ := hrel
        have HB2 := Lib.hid B
        clear B
        obtain ⟨ss, qs, hR, -, hA⟩ := (TB2.out.stay HB2.out) k hlt
        have hssn := hR.len
        have d5 : wr.cell? ⟨g, k * 8 + 5, none⟩ = some (.slice ss.a ss.n ss.c) := by have := hA 5 _ rfl; simpa using this
        have d0 : wr.cell? ⟨g, k * 8, none⟩ = some (.int .i64 (l[k]).kind) := by have := hA 0 _ rfl; simpa using this
        have d7 : wr.cell? ⟨g, k * 8 + 7, none⟩ = some (.int .i64 (l[k]).to) := by have := hA 7 _ rfl; simpa using this
        clear hA
        by_cases hml : m < (l[k]).slots.length
        · have hml' : (m : Int) < ((l[k]).slots.length : Int) := by omega
          obtain ⟨br, or, er, hc⟩ := hR.at hml
          have c0 : wr.cell? ⟨br, or + m * 5, none⟩ = some (.int .i64 ((l[k]).slots[m]).t) := hc 0 _ rfl
          have c1 := hc 1 _ rfl
          have c2 := hc 2 _ rfl
          have c3 := hc 3 _ rfl
          have c4 := hc 4 _ rfl
          clear hc hR d0 d7
          have hbl := cell_lt d5
          have HI := Lib.hid (HRI.out m hml)
          have hrk := okT_right HO1.out hml
          obtain ⟨r0, r8⟩ := R5.bd hrk
          clear hrk
          generalize hr : (l[k]).slots[m] = r at *
          have hI := HI.out
          simp only [rightIn, Bool.not_eq_true', Bool.or_eq_false_iff, decide_eq_false_iff_not] at hI
          obtain ⟨h1, h2⟩ := hI
          have h1' : decide ((l.length : Int) < r.t) = false := by simpa using h1
          clear hr HI
          go_upto_region 14 with fail
          by_cases h2' : 0 < r.t
          · have h2'' : decide ((0 : Int) < r.t) = true := by simpa using h2'
            obtain ⟨j, hj⟩ : ∃ j : Nat, r.t - 1 = j := ⟨(r.t - 1).toNat, by omega⟩
            have hjl : j < l.length := by omega
            have hjl' : (j : Int) < (l.length : Int) := by omega
            have hw : wrap64 (r.t - 1) = (j : Int) := by unfold wrap64; omega
            obtain ⟨ss2, qs2, -, -, hA2⟩ := (TB2.out.stay HB2.out) j hjl
            have f3 : wr.cell? ⟨g, j * 8 + 3, none⟩ = some (.int .i64 (l[j]).vers) := by have := hA2 3 _ rfl; simpa using this
            have h3 : decide ((l[j]).vers < r.v) = false := by
              rw [h2'', Bool.true_and, versAt_of hjl hj] at h2
              exact h2
            clear hA2 h2
            go_quiet (fail)
            go_wp2
            go_roundw
            case rel => exact ⟨m + 1, by omega, by go_num, goB HB2.out (drewNB (((Below.refl _ _).alloc (Nat.le_refl _) _)) _)⟩
            case measure => simp [intOf]; omega
          · have h2'' : decide ((0 : Int) < r.t) = false := by simpa using h2'
            clear h2
            go_quiet (fail)
            go_wp2
            go_roundw
            case rel => exact ⟨m + 1, by omega, by go_num, goB HB2.out (drewNB (((Below.refl _ _).alloc (Nat.le_refl _) _)) _)⟩
            case measure => simp [intOf]; omega
        · have hml' : ¬ (m : Int) < ((l[k]).slots.length : Int) := by omega
          clear hR hml hm
          by_cases hk5 : (l[k]).kind = 5
          · have hk5' : ((l[k]).kind == 5) = true := by simpa using hk5
            obtain ⟨t1, t8⟩ := okT_to HO1.out hk5
            have hg := HG.out
            simp only [gateOk, hk5', Bool.true_and, Bool.not_eq_true', Bool.or_eq_false_iff, decide_eq_false_iff_not] at hg
            obtain ⟨j, hj⟩ : ∃ j : Nat, (l[k]).to - 1 = j := ⟨((l[k]).to - 1).toNat, by omega⟩
            have hjl : j < l.length := by omega
            have hjl' : (j : Int) < (l.length : Int) := by omega
            have hw : wrap64 ((l[k]).to - 1) = (j : Int) := by unfold wrap64; omega
            obtain ⟨ss2, qs2, -, -, hA2⟩ := (TB2.out.stay HB2.out) j hjl
            have f0 : wr.cell? ⟨g, j * 8, none⟩ = some (.int .i64 1) := by
              have h5 := hA2 0 _ rfl
              have h6 := hg.2
              rw [kindAt_of hjl hj] at h6
              have h7 : (l[j]).kind = 1 := by simpa using h6
              simpa [h7] using h5
            have d0' : wr.cell? ⟨g, k * 8, none⟩ = some (.int .i64 5) := by rw [d0, hk5]
            clear hA2 hg d0 hk5 hk5' t1 t8
            go_wp2
            go_roundw
            case rel => exact ⟨k + 1, by omega, by go_num, HB2.out⟩
            case measure => simp [intOf]; omega
          · have hk5' : ((l[k]).kind == 5) = false := by simpa using hk5
            go_wp2
            go_roundw
            case rel => exact ⟨k + 1, by omega, by go_num, HB2.out⟩
            case measure => simp [intOf]; omega
    · have hlt' : ¬ (k : Int) < (l.length : Int) := by omega
      obtain ⟨Wb, rfl⟩ : ∃ Wb, Wb = wr := ⟨_, rfl⟩
      have TB3 := Lib.hid (TB2.out.stay HB.out)
      obtain ⟨v2, w5, xs, hap, ow, bl⟩ := append_all Wb g c l TB3.out l8 39
      have OW := Lib.hid ow
      have BL := Lib.hid bl
      obtain ⟨g5, c5, rfl⟩ : ∃ g5 c5, v2 = .slice (some ⟨g5, 0, none⟩) l.length c5 := by
        rcases ow.2 with ⟨-, h0⟩ | ⟨g5, c5, cur, e, -⟩
        · omega
        · exact ⟨g5, c5, e⟩
      clear ow bl hlt hk
      go_wp2_with (refine wpList_append_run rfl (.tmp 93) (.tmp 94) 39 rfl (.slice (some ⟨Wb.heap.size, 0, none⟩) 0 0) (.slice (some ⟨g, 0, none⟩) l.length c) rfl rfl (.slice (some ⟨g5, 0, none⟩) l.length c5) w5 hap ?_)
      clear hap hlt'
      go_loopw [8] (fun v wr2 => ∃ (n g6 c6 : Nat) (xs : List Value), v = .slice (some ⟨g6, 0, none⟩) n c6 ∧ n ≤ 9 ∧ wr2.ownsRow Wb.heap.size 30 8 (.slice (some ⟨g6, 0, none⟩) n c6) n xs ∧ Below Wb.heap.size Wb wr2) (fun v _ => 9 - (match v with | .slice _ n _ => n | _ => 0))
      case atStart => exact ⟨l.length, g5, c5, xs, rfl, by omega, OW.out, BL.out⟩
      case round =>
        obtain ⟨n, g6, c6, ys, rfl, hn9, ow, bl⟩ := hrel
        have OW2 := Lib.hid ow
        have BL2 := Lib.hid bl
        clear ow bl OW BL
        by_cases hn8 : n ≤ 8
        · have hn8' : (n : Int) ≤ 8 := by omega
          have hl0 : (0 : Int) < (l.length : Int) := by omega
          obtain ⟨ss, qs, -, -, hA⟩ := (TB3.out.stay BL2.out) 0 (by omega)
          generalize l[0] = x at hA
          have e0 : wr.cell? ⟨g, 0, none⟩ = some (.int .i64 x.kind) := by have := hA 0 _ rfl; simpa using this
          have e1 : wr.cell? ⟨g, 1, none⟩ = some (.int .i64 x.sec) := by have := hA 1 _ rfl; simpa using this
          have e2 : wr.cell? ⟨g, 2, none⟩ = some (.int .i64 x.vou) := by have := hA 2 _ rfl; simpa using this
          have e3 : wr.cell? ⟨g, 3, none⟩ = some (.int .i64 x.vers) := by have := hA 3 _ rfl; simpa using this
          have e4 : wr.cell? ⟨g, 4, none⟩ = some (.int .i64 x.num) := by have := hA 4 _ rfl; simpa using this
          have e5 : wr.cell? ⟨g, 5, none⟩ = some (.slice ss.a ss.n ss.c) := by have := hA 5 _ rfl; simpa using this
          have e6 : wr.cell? ⟨g, 6, none⟩ = some (.slice qs.a qs.n qs.c) := by have := hA 6 _ rfl; simpa using this
          have e7 : wr.cell? ⟨g, 7, none⟩ = some (.int .i64 x.to) := by have := hA 7 _ rfl; simpa using this
          clear hA
          obtain ⟨g7, c7, w7, hap, o7, kp7, bl7, sz7⟩ := append_row Wb.heap.size 30 39 8 96 _ infoTh Tryd.underlying39 rfl (by decide) wr _ n ys OW2.out (by omega) (by decide) BL2.out.size (x.cs ss qs) rfl (by simp [Value.oneCell']) 39
          have O7 := Lib.hid o7
          have B7 := Lib.hid (BL2.out.trans bl7)
          clear o7 kp7 bl7
          go_wp2_with (refine wpList_append_run rfl (.tmp 99) (.tmp 103) 39 rfl (.slice (some ⟨g6, 0, none⟩) n c6) (.slice (some ⟨wr.heap.size, 0, none⟩) 1 1) rfl rfl (.slice (some ⟨g7, 0, none⟩) (n + 1) c7) w7 hap ?_)
          go_roundw
          case rel => exact ⟨n + 1, g7, c7, _, rfl, by omega, O7.out, B7.out⟩
          case measure => simp; omega
        · have hn8' : ¬ (n : Int) ≤ 8 := by omega
          have BW := Lib.hid (goB B2.out (goB HB.out BL2.out))
          go_wp2_with fail
          refine (implTabOk_nil none 0 _).mono ?_
          rintro e y5 ⟨rfl, hb⟩
          have B5 := Lib.hid (goB BW.out hb)
          clear hb
          have hnil : tabOk [] = false := by decide
          rw [hnil]
          go_wp2_with fail
          refine (implTabOk_long _ n c6 (by omega) _).mono ?_
          rintro e y6 ⟨rfl, hb⟩
          have B6 := Lib.hid (goB B5.out hb)
          clear hb
          go_wp2
          go_ret
          exact ⟨rfl, B6.out⟩
end Go.Proofs.YtnfalnmidddkjaaDoor
