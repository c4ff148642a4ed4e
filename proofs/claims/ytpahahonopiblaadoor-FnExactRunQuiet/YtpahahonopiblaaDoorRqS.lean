/-
  Calls one behind the other: what a script is, whether it is quiet; the model's l21Calls and RunQuiet.
-/
import Derived.Test.YtpahahonopiblaaDoorCalC
import Derived.Test.YtpahahonopiblaaDoorVwA
namespace Go.Proofs.YtpahahonopiblaaDoor
open Go.RowKit
set_option linter.unusedVariables false
set_option maxRecDepth 100000

/-- Each call is one, of a runner. -/
def callsV (l : List T8) (q : List C5) : Bool := q.all fun c => c.ok && isRun l c.r
/-- A script for a table. -/
def scriptV (l : List T8) (q : List C5) : Bool := tabOk l && (callsV l q && decide (q.length ≤ 40))
/-- A call by one of whom a label may know. -/
def lowC (l : List T8) (s v : Int) (c : C5) : Bool := seesL (thAt l c.r) s v
/-- No gate from above. -/
def quietC (l : List T8) (s v : Int) (c : C5) : Bool := !(c.k == 9 && !lowC l s v c)
def quietV (l : List T8) (q : List C5) (s v : Int) : Bool := scriptV l q && (okL s v && q.all (quietC l s v))

theorem all_no {α : Type} {q : List α} {p : α → Bool} {k : Nat} (hk : k < q.length) (h : p q[k] = false) : q.all p = false := by
  rw [List.all_eq_false]
  exact ⟨q[k], List.getElem_mem hk, by simp [h]⟩
theorem all_yes {α : Type} {q : List α} {p : α → Bool} (h : ∀ i (hi : i < q.length), p q[i] = true) : q.all p = true := by
  rw [List.all_eq_true]
  intro x hx
  obtain ⟨i, hi, rfl⟩ := List.mem_iff_getElem.1 hx
  exact h i hi
theorem all_in {α : Type} {q : List α} {p : α → Bool} (h : q.all p = true) {k : Nat} (hk : k < q.length) : p q[k] = true := List.all_eq_true.1 h _ (List.getElem_mem hk)

set_option maxHeartbeats 2000000 in
theorem l21Calls_ne (l : List T8) (s : Sl) (q : List C5) (b o cc : Nat) (w : World) (ht : HasT w s l) (hq : ∀ i (h : i < q.length), At w b (o + i * 5) (q[i]).cs) (hz : l.length ≤ 1048576) (hqz : q.length ≤ 1048576) :
    Calls Tryd.prog 74 #[.slice s.a s.n s.c, .slice (some ⟨b, o, none⟩) q.length cc] w fun e w' => e = .returned (.bool (callsV l q && decide (q.length ≤ 40))) ∧ Below w.heap.size w w' := by
  have HT := Lib.hid ht
  have HQ := Lib.hid hq
  clear ht hq
  go_enter Tryd.func74, Tryd.ntmps74
  go_wp2
  go_loopw [5] (fun i wr => ∃ k : Nat, k ≤ q.length ∧ i = .int .i64 k ∧ Below w.heap.size w wr ∧ ∀ i (h : i < q.length), i < k → (q[i].ok && isRun l q[i].r) = true) (fun i _ => q.length - (intOf i).toNat)
  case atStart => exact ⟨0, by omega, rfl, Below.refl _ _, fun i h h0 => absurd h0 (by omega)⟩
  case round =>
    obtain ⟨k, hk, rfl, B0, G0⟩ := hrel
    have HB := Lib.hid B0
    have HG := Lib.hid G0
    clear B0 G0
    by_cases hlt : k < q.length
    · have hlt' : (k : Int) < (q.length : Int) := by omega
      have hc := (HQ.out k hlt).stay HB.out
      have c0 : wr.cell? ⟨b, o + k * 5, none⟩ = some (.int .i64 (q[k]).k) := hc 0 _ rfl
      have c1 : wr.cell? ⟨b, o + k * 5 + 1, none⟩ = some (.int .i64 (q[k]).r) := hc 1 _ rfl
      have c2 : wr.cell? ⟨b, o + k * 5 + 2, none⟩ = some (.int .i64 (q[k]).a) := hc 2 _ rfl
      have c3 : wr.cell? ⟨b, o + k * 5 + 3, none⟩ = some (.int .i64 (q[k]).b) := hc 3 _ rfl
      have c4 : wr.cell? ⟨b, o + k * 5 + 4, none⟩ = some (.int .i64 (q[k]).n) := hc 4 _ rfl
      clear hc
      have HK := Lib.hid (fun h : (q[k].ok && isRun l q[k].r) = false => (show callsV l q = false from all_no (p := fun c : C5 => c.ok && isRun l c.r) hlt h))
      obtain ⟨v1, hv1⟩ : ∃ v, q[k].ok = v := ⟨_, rfl⟩
      obtain ⟨v2, hv2⟩ : ∃ v, isRun l q[k].r = v := ⟨_, rfl⟩
      have HV1 := Lib.hid hv1
      have HV2 := Lib.hid hv2
      have HN := Lib.hid (show v1 = true → v2 = true → ∀ i (h : i < q.length), i < k + 1 → (q[i].ok && isRun l q[i].r) = true from fun e1 e2 i h hi => by
        by_cases hik : i = k
        · subst hik; rw [hv1, hv2, e1, e2]; rfl
        · exact HG.out i h (by omega))
      clear hv1 hv2
      generalize q[k] = c at *
      cases v1
      · go_wp2_with fail
        refine (specCallOk_val HV1.out _).mono ?_
        rintro e y ⟨rfl, hb⟩
        have HB2 := Lib.hid (HB.out.trans (hb.mono HB.out.size))
        clear hb c0 c1 c2 c3 c4
        go_wp2
        go_ret
        exact ⟨by rw [HK.out (by rw [HV1.out]; rfl)]; rfl, HB2.out⟩
      · go_wp2_with fail
        refine (specCallOk_val HV1.out _).mono ?_
        rintro e y ⟨rfl, hb⟩
        have HB2 := Lib.hid (HB.out.trans (hb.mono HB.out.size))
        have d1 := stayCell c1 hb
        clear hb c0 c1 c2 c3 c4
        go_wp2_with fail
        refine (l11Run_val HV2.out _ (HT.out.stay HB2.out) hz).mono ?_
        rintro e y3 ⟨rfl, rfl⟩
        cases v2
        · go_wp2
          go_ret
          exact ⟨by rw [HK.out (by rw [HV1.out, HV2.out]; rfl)]; rfl, HB2.out⟩
        · clear d1
          go_wp2
          go_roundw
          case rel => exact ⟨k + 1, by omega, by go_num, HB2.out, HN.out (by simp) (by simp)⟩
          case measure => simp [intOf]; omega
    · have hlt' : ¬ (k : Int) < (q.length : Int) := by omega
      have HA := Lib.hid (show callsV l q = true from all_yes fun i hi => HG.out i hi (by omega))
      clear HG
      by_cases h40 : (q.length : Int) ≤ 40
      · go_wp2
        go_ret
        exact ⟨by rw [HA.out]; simp; omega, HB.out⟩
      · go_wp2
        go_ret
        exact ⟨by rw [HA.out]; simp; omega, HB.out⟩
set_option maxHeartbeats 1000000 in
theorem l21Calls_nil (l : List T8) (s : Sl) (a : Option Addr) (cc : Nat) (w : World) :
    Calls Tryd.prog 74 #[.slice s.a s.n s.c, .slice a 0 cc] w fun e w' => e = .returned (.bool true) ∧ Below w.heap.size w w' := by
  go_enter Tryd.func74, Tryd.ntmps74
  go_wp2
  go_loop [5] (fun i => i = .int .i64 0) (fun _ => 0)
  case atStart => rfl
  case round =>
    subst hrel
    go_wp2
    go_ret
    exact ⟨rfl, Below.refl _ _⟩
theorem l21Calls_any (l : List T8) (s : Sl) (q : List C5) (t : Sl) (w : World) (ht : HasT w s l) (hq : HasC w t q) (hz : l.length ≤ 1048576) (hqz : q.length ≤ 1048576) :
    Calls Tryd.prog 74 #[.slice s.a s.n s.c, .slice t.a t.n t.c] w fun e w' => e = .returned (.bool (callsV l q && decide (q.length ≤ 40))) ∧ Below w.heap.size w w' := by
  rw [hq.len]
  by_cases hl : q = []
  · subst hl
    exact l21Calls_nil l s t.a t.c w
  · obtain ⟨b, o, ea, hall⟩ := hq.ne hl
    rw [ea]
    exact l21Calls_ne l s q b o t.c w ht hall hz hqz
set_option maxHeartbeats 4000000 in
theorem specQuiet_ne (l : List T8) (b2 o2 c2 : Nat) (q : List C5) (b o cc : Nat) (sl vl : Int) (w : World) (ht : HasT w ⟨some ⟨b2, o2, none⟩, l.length, c2⟩ l) (hq : ∀ i (h : i < q.length), At w b (o + i * 5) (q[i]).cs) (hz : l.length ≤ 1048576) (hzs : ∀ i (h : i < l.length), l[i].slots.length ≤ 1048576) (hqz : q.length ≤ 1048576)
    (h1 : tabOk l = true) (h2 : callsV l q = true) (h3 : q.length ≤ 40) (h4 : okL sl vl = true) :
    Calls Tryd.prog 40 #[.slice (some ⟨b2, o2, none⟩) l.length c2, .slice (some ⟨b, o, none⟩) q.length cc, lab sl vl] w fun e w' => e = .returned (.bool (q.all (quietC l sl vl))) ∧ Below w.heap.size w w' := by
  have E0 : Hid (KT w [(w.heap.size, 33, #[.int .i64 sl, .int .i64 vl])] ⟨some ⟨b2, o2, none⟩, l.length, c2⟩ l _) := Lib.hid ⟨(Kn.refl (w := w)).new 33 #[.int .i64 sl, .int .i64 vl], ht.stay ((Below.refl _ _).alloc (Nat.le_refl _) _)⟩
  have HQ := Lib.hid hq
  have H1 := Lib.hid h1
  have H2 := Lib.hid h2
  have H4 := Lib.hid h4
  have HZS := Lib.hid hzs
  have HS := Lib.hid (show (callsV l q && decide (q.length ≤ 40)) = true by simp [h2, h3])
  clear hq h1 h2 h4 hzs ht
  go_enter Tryd.func40, Tryd.ntmps40
  go_wp2_with fail
  refine (specTabOk_val' (s := ⟨some ⟨b2, o2, none⟩, l.length, c2⟩) H1.out _ E0.out.2 hz HZS.out).mono ?_
  rintro e y1 ⟨rfl, hb⟩
  have E1 := Lib.hid (E0.out.stay hb)
  clear hb E0
  go_wp2_with fail
  refine (l21Calls_ne l ⟨some ⟨b2, o2, none⟩, l.length, c2⟩ q b o cc _ E1.out.2 (fun i h => (HQ.out i h).stay E1.out.1.1) hz hqz).mono ?_
  rintro e y2 ⟨rfl, hb⟩
  have E2 := Lib.hid (E1.out.stay hb)
  clear hb E1
  rw [HS.out]
  have d0 := E2.out.1.c (b := w.heap.size) (T := 33) (vs := #[.int .i64 sl, .int .i64 vl]) (by simp) 0 _ rfl
  have d1 := E2.out.1.c (b := w.heap.size) (T := 33) (vs := #[.int .i64 sl, .int .i64 vl]) (by simp) 1 _ rfl
  go_wp2_with fail
  refine (specOk_any sl vl _).mono ?_
  rintro e y3 ⟨rfl, hb⟩
  have E3 := Lib.hid (E2.out.stay hb)
  clear hb E2 d0 d1
  rw [H4.out]
  go_wp2
  go_loopw [7] (fun i wr => ∃ k : Nat, k ≤ q.length ∧ i = .int .i64 k ∧ KT w [(w.heap.size, 33, #[.int .i64 sl, .int .i64 vl])] ⟨some ⟨b2, o2, none⟩, l.length, c2⟩ l wr ∧ ∀ i (h : i < q.length), i < k → quietC l sl vl q[i] = true) (fun i _ => q.length - (intOf i).toNat)
  case atStart => exact ⟨0, by omega, rfl, E3.out, fun i h h0 => absurd h0 (by omega)⟩
  case round =>
    clear E3
    obtain ⟨k, hk, rfl, B0, G0⟩ := hrel
    have HB := Lib.hid B0
    have HG := Lib.hid G0
    clear B0 G0
    by_cases hlt : k < q.length
    · have hlt' : (k : Int) < (q.length : Int) := by omega
      have hc := (HQ.out k hlt).stay HB.out.1.1
      have hcc := Lib.hid hc
      have c0 : wr.cell? ⟨b, o + k * 5, none⟩ = some (.int .i64 (q[k]).k) := hc 0 _ rfl
      clear hc
      have HK := Lib.hid (fun h : quietC l sl vl q[k] = false => (show q.all (quietC l sl vl) = false from all_no hlt h))
      obtain ⟨v1, hv1⟩ : ∃ v, quietC l sl vl q[k] = v := ⟨_, rfl⟩
      have HV1 := Lib.hid hv1
      have HN := Lib.hid (show v1 = true → ∀ i (h : i < q.length), i < k + 1 → quietC l sl vl q[i] = true from fun e1 i h hi => by
        by_cases hik : i = k
        · subst hik; rw [hv1, e1]
        · exact HG.out i h (by omega))
      have hrun : isRun l q[k].r = true := by
        have := all_in H2.out hlt
        simp only [Bool.and_eq_true] at this
        exact this.2
      have HRUN := Lib.hid hrun
      clear hv1 hrun
      generalize q[k] = c at *
      cases h9 : (c.k == 9)
      · have ev : v1 = true := by rw [← HV1.out]; simp [quietC, h9]
        subst ev
        have gg : ∀ zz : Wd (KT wr [] ⟨some ⟨b2, o2, none⟩, l.length, c2⟩ l), zz.w.cell? ⟨b, o + k * 5, none⟩ = some (.int .i64 c.k) := fun zz => stayCell c0 zz.ok.1.1
        have ne : Nonempty (Wd (KT wr [] ⟨some ⟨b2, o2, none⟩, l.length, c2⟩ l)) := ⟨⟨_, (show KT wr [] ⟨some ⟨b2, o2, none⟩, l.length, c2⟩ l wr from ⟨Kn.refl, HB.out.2⟩).drew⟩⟩
        have RR : Hid (KT wr [] ⟨some ⟨b2, o2, none⟩, l.length, c2⟩ l wr) := Lib.hid ⟨Kn.refl, HB.out.2⟩
        clear c0
        go_upto_region 6 with fail
        refine wp_region_quiet (C := fun y => ∃ zz : Wd (KT wr [] ⟨some ⟨b2, o2, none⟩, l.length, c2⟩ l), y = zz.w) (by kernel_rfl) (by kernel_rfl) ⟨⟨_, RR.out.drew⟩, rfl⟩ ?_
        show wpQuiet _ _ _ _ [_, _, _, _, _, _, _, _, _, _, _, _, _, _, _, _, _, _, _, _, _] _
        repeat (first | go_big_quiet_step ((go_at_call 69; fail)) | quiet_step ((go_at_call 69; fail)))
        refine wpQuiet_nil ?_
        rintro _ ⟨⟨y5, D5⟩, rfl⟩
        have HD5 := Lib.hid (HB.out.stay D5.1.1)
        clear gg ne D5 RR
        go_wp2
        go_roundw
        case rel => exact ⟨k + 1, by omega, by go_num, HD5.out, HN.out (by simp)⟩
        case measure => simp [intOf]; omega
      · have hr1 : inR c.r 1 l.length = true := by have := HRUN.out; simp only [isRun, Bool.and_eq_true] at this; exact this.1
        obtain ⟨j, hj, hn⟩ := idx_of hr1
        have wn : wrap64 (c.r - 1) = (j : Int) := by unfold wrap64; omega
        have wj : IntKind.i64.wrap (j : Int) = (j : Int) := IntWalk.i64_in _ (by omega)
        have wn2 : IntKind.i64.wrap (c.r - 1) = (j : Int) := by rw [hn]; exact wj
        have hj' : (j : Int) < (l.length : Int) := by omega
        have OJ := okT_lab (tab_okT H1.out hj)
        have HV := Lib.hid (show v1 = (sub2 l[j].sec sl && sub2 vl l[j].vou) by
          rw [← HV1.out]
          simp only [quietC, lowC, seesL, h9, Bool.true_and, Bool.not_not]
          rw [thAt_of hj hn, flow_ok OJ H4.out])
        have A4 := Lib.hid (fun y => l1Flow_any l[j].sec l[j].vou sl vl y OJ H4.out)
        have key : ∀ zz : Wd (KT wr [] ⟨some ⟨b2, o2, none⟩, l.length, c2⟩ l), ∃ ss qs, At zz.w b2 (o2 + j * 8) (l[j].cs ss qs) := fun zz => by
          obtain ⟨b', o', e, h⟩ := zz.ok.2.ne hj
          simp only [Option.some.injEq, Addr.mk.injEq] at e
          obtain ⟨rfl, rfl, -⟩ := e
          obtain ⟨ss, qs, -, -, hA⟩ := h j hj
          exact ⟨ss, qs, hA⟩
        have s2 : ∀ zz : Wd (KT wr [] ⟨some ⟨b2, o2, none⟩, l.length, c2⟩ l), zz.w.cell? ⟨b2, o2 + j * 8 + 1, none⟩ = some (.int .i64 l[j].sec) := fun zz => by obtain ⟨ss, qs, h⟩ := key zz; exact h 1 _ rfl
        have v2 : ∀ zz : Wd (KT wr [] ⟨some ⟨b2, o2, none⟩, l.length, c2⟩ l), zz.w.cell? ⟨b2, o2 + j * 8 + 2, none⟩ = some (.int .i64 l[j].vou) := fun zz => by obtain ⟨ss, qs, h⟩ := key zz; exact h 2 _ rfl
        have g0 : ∀ zz : Wd (KT wr [] ⟨some ⟨b2, o2, none⟩, l.length, c2⟩ l), zz.w.cell? ⟨b, o + k * 5, none⟩ = some (.int .i64 c.k) := fun zz => stayCell c0 zz.ok.1.1
        have g1 : ∀ zz : Wd (KT wr [] ⟨some ⟨b2, o2, none⟩, l.length, c2⟩ l), zz.w.cell? ⟨b, o + k * 5 + 1, none⟩ = some (.int .i64 c.r) := fun zz => stayCell (hcc.out 1 _ rfl) zz.ok.1.1
        have f0 := fun zz : Wd (KT wr [] ⟨some ⟨b2, o2, none⟩, l.length, c2⟩ l) => stayCell (HB.out.1.c (b := w.heap.size) (T := 33) (vs := #[.int .i64 sl, .int .i64 vl]) (by simp) 0 _ rfl) zz.ok.1.1
        have f1 := fun zz : Wd (KT wr [] ⟨some ⟨b2, o2, none⟩, l.length, c2⟩ l) => stayCell (HB.out.1.c (b := w.heap.size) (T := 33) (vs := #[.int .i64 sl, .int .i64 vl]) (by simp) 1 _ rfl) zz.ok.1.1
        have RR : Hid (KT wr [] ⟨some ⟨b2, o2, none⟩, l.length, c2⟩ l wr) := Lib.hid ⟨Kn.refl, HB.out.2⟩
        have ne : Nonempty (Wd (KT wr [] ⟨some ⟨b2, o2, none⟩, l.length, c2⟩ l)) := ⟨⟨_, RR.out.drew⟩⟩
        clear key OJ hn c0 hr1 hcc
        generalize l[j] = z at *
        go_upto_region 6 with fail
        refine wp_region_quiet (C := fun y => ∃ zz : Wd (KT wr [] ⟨some ⟨b2, o2, none⟩, l.length, c2⟩ l), y = zz.w) (by kernel_rfl) (by kernel_rfl) ⟨⟨_, RR.out.drew⟩, rfl⟩ ?_
        show wpQuiet _ _ _ _ [_, _, _, _, _, _, _, _, _, _, _, _, _, _, _, _, _, _, _, _, _] _
        repeat (first | go_big_quiet_step ((go_at_call 69; exact inCls KT.stay (A4.out _))) | quiet_step ((go_at_call 69; exact inCls KT.stay (A4.out _))))
        refine wpQuiet_nil ?_
        rintro _ ⟨⟨y5, D5⟩, rfl⟩
        have HD5 := Lib.hid (HB.out.stay D5.1.1)
        clear s2 v2 g0 g1 f0 f1 ne D5 RR
        clear A4
        generalize sub2 z.sec sl = x1 at *
        generalize sub2 vl z.vou = x2 at *
        cases x1 <;> cases x2 <;> simp only [Bool.not_false, Bool.not_true, Bool.or_true, Bool.or_false, Bool.and_self, Bool.and_true, Bool.and_false]
        iterate 3
          · obtain rfl : v1 = false := HV.out
            go_wp2
            go_ret
            exact ⟨by rw [HK.out HV1.out]; try rfl, HD5.out.1.1⟩
        · obtain rfl : v1 = true := HV.out
          go_wp2
          go_roundw
          case rel => exact ⟨k + 1, by omega, by go_num, HD5.out, HN.out (by simp)⟩
          case measure => simp [intOf]; omega
    · have hlt' : ¬ (k : Int) < (q.length : Int) := by omega
      have HA := Lib.hid (show q.all (quietC l sl vl) = true from all_yes fun i hi => HG.out i hi (by omega))
      clear HG
      go_wp2
      go_ret
      exact ⟨by rw [HA.out]; try rfl, HB.out.1.1⟩
set_option maxHeartbeats 2000000 in
theorem specQuiet_nil (l : List T8) (b2 o2 c2 : Nat) (a : Option Addr) (cc : Nat) (sl vl : Int) (w : World) (ht : HasT w ⟨some ⟨b2, o2, none⟩, l.length, c2⟩ l) (hz : l.length ≤ 1048576) (hzs : ∀ i (h : i < l.length), l[i].slots.length ≤ 1048576)
    (h1 : tabOk l = true) (h4 : okL sl vl = true) :
    Calls Tryd.prog 40 #[.slice (some ⟨b2, o2, none⟩) l.length c2, .slice a 0 cc, lab sl vl] w fun e w' => e = .returned (.bool true) ∧ Below w.heap.size w w' := by
  have E0 : Hid (KT w [(w.heap.size, 33, #[.int .i64 sl, .int .i64 vl])] ⟨some ⟨b2, o2, none⟩, l.length, c2⟩ l _) := Lib.hid ⟨(Kn.refl (w := w)).new 33 #[.int .i64 sl, .int .i64 vl], ht.stay ((Below.refl _ _).alloc (Nat.le_refl _) _)⟩
  have H1 := Lib.hid h1
  have H4 := Lib.hid h4
  have HZS := Lib.hid hzs
  clear h1 h4 hzs ht
  go_enter Tryd.func40, Tryd.ntmps40
  go_wp2_with fail
  refine (specTabOk_val' (s := ⟨some ⟨b2, o2, none⟩, l.length, c2⟩) H1.out _ E0.out.2 hz HZS.out).mono ?_
  rintro e y1 ⟨rfl, hb⟩
  have E1 := Lib.hid (E0.out.stay hb)
  clear hb E0
  go_wp2_with fail
  refine (l21Calls_nil l ⟨some ⟨b2, o2, none⟩, l.length, c2⟩ a cc _).mono ?_
  rintro e y2 ⟨rfl, hb⟩
  have E2 := Lib.hid (E1.out.stay hb)
  clear hb E1
  have d0 := E2.out.1.c (b := w.heap.size) (T := 33) (vs := #[.int .i64 sl, .int .i64 vl]) (by simp) 0 _ rfl
  have d1 := E2.out.1.c (b := w.heap.size) (T := 33) (vs := #[.int .i64 sl, .int .i64 vl]) (by simp) 1 _ rfl
  go_wp2_with fail
  refine (specOk_any sl vl _).mono ?_
  rintro e y3 ⟨rfl, hb⟩
  have E3 := Lib.hid (E2.out.stay hb)
  clear hb E2 d0 d1
  rw [H4.out]
  go_wp2
  go_loop [7] (fun i => i = .int .i64 0) (fun _ => 0)
  case atStart => rfl
  case round =>
    subst hrel
    go_wp2
    go_ret
    exact ⟨rfl, E3.out.1.1⟩
set_option maxHeartbeats 2000000 in
theorem specQuiet_any (l : List T8) (s : Sl) (q : List C5) (t : Sl) (sl vl : Int) (w : World) (ht : HasT w s l) (hq : HasC w t q) (hz : l.length ≤ 1048576) (hzs : ∀ i (h : i < l.length), l[i].slots.length ≤ 1048576) (hqz : q.length ≤ 1048576) :
    Calls Tryd.prog 40 #[.slice s.a s.n s.c, .slice t.a t.n t.c, lab sl vl] w fun e w' => e = .returned (.bool (quietV l q sl vl)) ∧ Below w.heap.size w w' := by
  have HK0 := Lib.hid ((Kn.refl (w := w)).new 33 #[.int .i64 sl, .int .i64 vl])
  have HT := Lib.hid ht
  have HQ := Lib.hid hq
  have HZS := Lib.hid hzs
  clear hzs
  cases h1 : tabOk l
  · have H1 := Lib.hid h1
    have HV := Lib.hid (show quietV l q sl vl = false by simp [quietV, scriptV, h1])
    clear h1 ht hq
    go_enter Tryd.func40, Tryd.ntmps40
    go_wp2_with fail
    refine (specTabOk_val' H1.out _ (HT.out.stay HK0.out.1) hz HZS.out).mono ?_
    rintro e y1 ⟨rfl, hb⟩
    have HK1 := Lib.hid (HK0.out.stay hb)
    clear hb
    go_wp2
    go_ret
    exact ⟨by rw [HV.out]; try rfl, HK1.out.1⟩
  cases h2 : (callsV l q && decide (q.length ≤ 40))
  · have H1 := Lib.hid h1
    have H2 := Lib.hid h2
    have HV := Lib.hid (show quietV l q sl vl = false by simp only [quietV, scriptV, h2, Bool.and_false, Bool.false_and])
    clear h1 h2 ht hq
    go_enter Tryd.func40, Tryd.ntmps40
    go_wp2_with fail
    refine (specTabOk_val' H1.out _ (HT.out.stay HK0.out.1) hz HZS.out).mono ?_
    rintro e y1 ⟨rfl, hb⟩
    have HK1 := Lib.hid (HK0.out.stay hb)
    clear hb
    go_wp2_with fail
    refine (l21Calls_any l s q t _ (HT.out.stay HK1.out.1) (HQ.out.stay HK1.out.1) hz hqz).mono ?_
    rintro e y2 ⟨rfl, hb⟩
    have HK2 := Lib.hid (HK1.out.stay hb)
    clear hb
    rw [H2.out]
    go_wp2
    go_ret
    exact ⟨by rw [HV.out]; try rfl, HK2.out.1⟩
  cases h4 : okL sl vl
  · have H1 := Lib.hid h1
    have H2 := Lib.hid h2
    have H4 := Lib.hid h4
    have HV := Lib.hid (show quietV l q sl vl = false by simp [quietV, h4])
    clear h1 h2 h4 ht hq
    go_enter Tryd.func40, Tryd.ntmps40
    go_wp2_with fail
    refine (specTabOk_val' H1.out _ (HT.out.stay HK0.out.1) hz HZS.out).mono ?_
    rintro e y1 ⟨rfl, hb⟩
    have HK1 := Lib.hid (HK0.out.stay hb)
    clear hb
    go_wp2_with fail
    refine (l21Calls_any l s q t _ (HT.out.stay HK1.out.1) (HQ.out.stay HK1.out.1) hz hqz).mono ?_
    rintro e y2 ⟨rfl, hb⟩
    have HK2 := Lib.hid (HK1.out.stay hb)
    clear hb
    rw [H2.out]
    have d0 := HK2.out.c (b := w.heap.size) (T := 33) (vs := #[.int .i64 sl, .int .i64 vl]) (by simp) 0 _ rfl
    have d1 := HK2.out.c (b := w.heap.size) (T := 33) (vs := #[.int .i64 sl, .int .i64 vl]) (by simp) 1 _ rfl
    go_wp2_with fail
    refine (specOk_any sl vl _).mono ?_
    rintro e y3 ⟨rfl, hb⟩
    have HK3 := Lib.hid (HK2.out.stay hb)
    clear hb d0 d1
    rw [H4.out]
    go_wp2
    go_ret
    exact ⟨by rw [HV.out]; try rfl, HK3.out.1⟩
  have h2' : callsV l q = true ∧ q.length ≤ 40 := by simpa using h2
  obtain ⟨hc, h40⟩ := h2'
  have hv : quietV l q sl vl = q.all (quietC l sl vl) := by simp only [quietV, scriptV, h1, h2, h4, Bool.true_and]
  have hlen := tab_len h1
  obtain ⟨b2, o2, ea, hTb⟩ := ht.ne (j := 0) (by omega)
  have ht' : HasT w ⟨some ⟨b2, o2, none⟩, l.length, s.c⟩ l := ⟨rfl, by have := ht.2.1; rw [ht.1] at this; exact this, .inr ⟨b2, o2, rfl, hTb⟩⟩
  rw [hv, ht.1, ea, hq.len]
  by_cases hl : q = []
  · subst hl
    exact specQuiet_nil l b2 o2 s.c t.a t.c sl vl w ht' hz HZS.out h1 h4
  · obtain ⟨b, o, eb, hall⟩ := hq.ne hl
    rw [eb]
    exact specQuiet_ne l b2 o2 s.c q b o t.c sl vl w ht' hall hz HZS.out hqz h1 hc h40 h4
end Go.Proofs.YtpahahonopiblaaDoor
