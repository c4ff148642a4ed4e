/-
  The walk of laws.FnLive.
-/
import Derived.Test.YtnfalnmidddkjaaDoorDrawTL
import Derived.Test.YtnfalnmidddkjaaDoorThgI
namespace Go.Proofs.YtnfalnmidddkjaaDoor
open Go.RowKit
set_option maxRecDepth 100000
set_option linter.unusedVariables false

theorem implTabLive_val {l : List T8} {s : Sl} {r : R5} {v : Bool} (h : tabLive l r = v) (w : World) (ht : HasT w s l) (hf : KF w) (hz : l.length ≤ 1048576) :
    Calls Tryd.prog 30 #[.slice s.a s.n s.c, rgt r.t r.v r.r r.w r.k] w fun e w' => e = .returned (.bool v) ∧ Below w.heap.size w w' := by
  subst h; exact implTabLive_any l s r w ht hf hz
theorem specTabLive_val {l : List T8} {s : Sl} {r : R5} {v : Bool} (h : tabLive l r = v) (w : World) (ht : HasT w s l) (hz : l.length ≤ 1048576) (hzs : ∀ i (h : i < l.length), l[i].slots.length ≤ 1048576) :
    Calls Tryd.prog 31 #[.slice s.a s.n s.c, rgt r.t r.v r.r r.w r.k] w fun e w' => e = .returned (.bool v) ∧ Below w.heap.size w w' := by
  subst h; exact specTabLive_any l s r w ht hz hzs
/-- Worlds in which blocks and a table are known. -/
def KT (w : World) (L : List Blk3) (s : Sl) (l : List T8) (y : World) : Prop := Kn w L y ∧ HasT y s l
theorem KT.stay {w x y : World} {L : List Blk3} {s : Sl} {l : List T8} (h : KT w L s l x) (hb : Below x.heap.size x y) : KT w L s l y := ⟨h.1.stay hb, h.2.stay hb⟩
theorem KT.drew {w x : World} {L : List Blk3} {s : Sl} {l : List T8} (h : KT w L s l x) : KT w L s l x.drew := h.stay (Below.refl _ _).drew
theorem ok_read {t v : Int} {r wr k : Bool} (h : okR t v r wr k = true) (ht : t ≠ 0) (b : Bool) : okR t v b wr k = true := by simp [okR, ht] at h ⊢; exact h

set_option maxHeartbeats 8000000 in
theorem walk_FnLive (a0 : Option Addr) (len0 cap0 : Nat) (z0 : List Int) (w : World) (hKF : KF w) (w0 : IsRow .u8 w a0 len0 cap0 z0) :
    Calls Tryd.prog 7 #[.slice a0 len0 cap0] w fun e w' => e = .returned (.bool true) ∧ Below w.heap.size w w' := by
  by_cases g0 : (1048576 : Int) < (len0 : Int)
  · go_enter Tryd.func7, Tryd.ntmps7
    go_wp2
    go_ret
    exact ⟨rfl, Below.refl _ _⟩
  have W0 := Lib.hid w0
  have HF := Lib.hid hKF
  clear w0 hKF
  go_enter Tryd.func7, Tryd.ntmps7
  go_wp2_with fail
  refine (drawTL_any a0 len0 cap0 z0 _ W0.out).mono ?_
  rintro e y0 ⟨g, c, l, x, rfl, hT, l3, l8, hzs, hb⟩
  have K0 := Lib.hid ((Kn.start hb).new 35 x.cs)
  have T0 := Lib.hid (hT.stay ((Below.refl _ _).alloc (Nat.le_refl _) (.cells x.cs 35)))
  have HZS := Lib.hid hzs
  have hz : l.length ≤ 1048576 := by omega
  clear W0 hb hT hzs
  obtain ⟨v, hv⟩ : ∃ v, tabLive l x = v := ⟨_, rfl⟩
  have HV := Lib.hid hv
  clear hv
  go_wp2_with fail
  refine (implTabLive_val (s := ⟨some ⟨g, 0, none⟩, l.length, c⟩) HV.out _ T0.out (HF.out.stay K0.out.1) hz).mono ?_
  rintro e y1 ⟨rfl, hb⟩
  have K1 := Lib.hid (K0.out.stay hb)
  have T1 := Lib.hid (T0.out.stay hb)
  clear hb K0 T0
  have c0 := K1.out.c (b := y0.heap.size) (T := 35) (vs := x.cs) (by simp) 0 _ rfl
  have c1 := K1.out.c (b := y0.heap.size) (T := 35) (vs := x.cs) (by simp) 1 _ rfl
  have c2 := K1.out.c (b := y0.heap.size) (T := 35) (vs := x.cs) (by simp) 2 _ rfl
  have c3 := K1.out.c (b := y0.heap.size) (T := 35) (vs := x.cs) (by simp) 3 _ rfl
  have c4 := K1.out.c (b := y0.heap.size) (T := 35) (vs := x.cs) (by simp) 4 _ rfl
  go_wp2_with fail
  refine (specTabLive_val (s := ⟨some ⟨g, 0, none⟩, l.length, c⟩) HV.out _ T1.out hz HZS.out).mono ?_
  rintro e y2 ⟨rfl, hb⟩
  have K2 := Lib.hid (K1.out.stay hb)
  have T2 := Lib.hid (T1.out.stay hb)
  clear hb K1 T1 c0 c1 c2 c3 c4
  obtain ⟨b1, hb1⟩ : ∃ b1, tabOk l = b1 := ⟨_, rfl⟩
  have HB1 := Lib.hid hb1
  clear hb1
  have fin : ∀ y : World, Kn w [(y0.heap.size, 35, x.cs)] y → HasT y ⟨some ⟨g, 0, none⟩, l.length, c⟩ l → Calls Tryd.prog 31 #[.slice (some ⟨g, 0, none⟩) l.length c, rgt x.t x.v x.r x.w x.k] y fun e y' => e = .returned (.bool v) ∧ Below w.heap.size w y' := fun y hk ht =>
    (specTabLive_val (s := ⟨some ⟨g, 0, none⟩, l.length, c⟩) HV.out _ ht hz HZS.out).mono fun e y' h => ⟨h.1, (hk.stay h.2).1⟩
  have FIN := Lib.hid fin
  clear fin
  cases v
  · go_wp2_with fail
    refine (specTabOk_val (s := ⟨some ⟨g, 0, none⟩, l.length, c⟩) HB1.out _ T2.out hz HZS.out).mono ?_
    rintro e y3 ⟨rfl, hb⟩
    have K3 := Lib.hid (K2.out.stay hb)
    have T3 := Lib.hid (T2.out.stay hb)
    clear hb K2 T2
    have c0 := K3.out.c (b := y0.heap.size) (T := 35) (vs := x.cs) (by simp) 0 _ rfl
    have c1 := K3.out.c (b := y0.heap.size) (T := 35) (vs := x.cs) (by simp) 1 _ rfl
    have c2 := K3.out.c (b := y0.heap.size) (T := 35) (vs := x.cs) (by simp) 2 _ rfl
    have c3 := K3.out.c (b := y0.heap.size) (T := 35) (vs := x.cs) (by simp) 3 _ rfl
    have c4 := K3.out.c (b := y0.heap.size) (T := 35) (vs := x.cs) (by simp) 4 _ rfl
    cases b1
    · go_wp2_with fail
      refine (FIN.out _ K3.out T3.out).mono ?_
      rintro e y4 ⟨rfl, hb⟩
      have HB := Lib.hid hb
      clear hb
      go_wp2
      go_ret
      exact ⟨rfl, HB.out⟩
    obtain ⟨b2, hb2⟩ : ∃ b2, x.ok = b2 := ⟨_, rfl⟩
    have HB2 := Lib.hid hb2
    clear hb2
    go_wp2_with fail
    refine (specROk_val HB2.out _).mono ?_
    rintro e y4 ⟨rfl, hb⟩
    have K4 := Lib.hid (K3.out.stay hb)
    have T4 := Lib.hid (T3.out.stay hb)
    clear hb K3 T3 c0 c1 c2 c3 c4
    have c0 := K4.out.c (b := y0.heap.size) (T := 35) (vs := x.cs) (by simp) 0 _ rfl
    have c1 := K4.out.c (b := y0.heap.size) (T := 35) (vs := x.cs) (by simp) 1 _ rfl
    have c2 := K4.out.c (b := y0.heap.size) (T := 35) (vs := x.cs) (by simp) 2 _ rfl
    have c3 := K4.out.c (b := y0.heap.size) (T := 35) (vs := x.cs) (by simp) 3 _ rfl
    have c4 := K4.out.c (b := y0.heap.size) (T := 35) (vs := x.cs) (by simp) 4 _ rfl
    cases b2
    · go_wp2_with fail
      refine (FIN.out _ K4.out T4.out).mono ?_
      rintro e y5 ⟨rfl, hb⟩
      have HB := Lib.hid hb
      clear hb
      go_wp2
      go_ret
      exact ⟨rfl, HB.out⟩
    have HL := Lib.hid (show liveB l x = false by have h := HV.out; simp only [tabLive, HB1.out, HB2.out, Bool.true_and] at h; exact h)
    obtain ⟨xb0, xb8⟩ := R5.bd HB2.out
    by_cases ht0 : x.t = 0
    · have c0' : y4.cell? ⟨y0.heap.size, 0, none⟩ = some (.int .i64 0) := by rw [c0]; simp [ht0]
      clear c0 ht0
      go_wp2
      go_ret
      exact ⟨rfl, K4.out.1⟩
    by_cases htl : (l.length : Int) < x.t
    · have ht0' : (x.t == 0) = false := by simpa using ht0
      go_wp2
      go_ret
      exact ⟨rfl, K4.out.1⟩
    obtain ⟨xt, xv, xr, xw, xk⟩ := x
    dsimp only at *
    obtain ⟨i, hi⟩ : ∃ i : Nat, xt = (i : Int) + 1 := ⟨(xt - 1).toNat, by omega⟩
    subst hi
    have hil : i < l.length := by omega
    have hil' : (i : Int) < (l.length : Int) := by omega
    have hq : (l[i].vers == xv) = false := by
      have h := HL.out
      have h1 : inR ((i : Int) + 1) 1 l.length = true := by simp [inR]; omega
      simp only [liveB, h1, Bool.true_and] at h
      rw [versAt_of hil (show (i : Int) + 1 - 1 = i by omega)] at h
      exact h
    have HX := Lib.hid (show tabLive l ⟨(i : Int) + 1, xv, !xr, xw, xk⟩ = false by
      have ho : (⟨(i : Int) + 1, xv, !xr, xw, xk⟩ : R5).ok = true := ok_read HB2.out (by omega) _
      have h := HL.out
      simp only [tabLive, HB1.out, ho, Bool.true_and]
      exact h)
    have hw : wrap64 ((i : Int) + 1 - 1) = (i : Int) := by unfold wrap64; omega
    have ht0' : (((i : Int) + 1) == 0) = false := by simp; omega
    have hi1 : ¬ (i : Int) + 1 = 0 := by omega
    have E0 : Hid (KT w [(y4.heap.size, 35, rgtC ((i : Int) + 1) xv (!xr) xw xk), (y0.heap.size, 35, rgtC ((i : Int) + 1) xv xr xw xk)] ⟨some ⟨g, 0, none⟩, l.length, c⟩ l (y4.alloc (.cells (rgtC ((i : Int) + 1) xv (!xr) xw xk) 35))) := Lib.hid ⟨K4.out.new 35 (rgtC ((i : Int) + 1) xv (!xr) xw xk), T4.out.stay ((Below.refl _ _).alloc (Nat.le_refl _) _)⟩
    have hyl := (K4.out.box (b := y0.heap.size) (T := 35) (vs := rgtC ((i : Int) + 1) xv xr xw xk) (by simp)).lt
    go_upto_region 11 with fail
    clear c0 c1 c2 c3 c4 K4 T4
    have cx0 := fun zz : Wd (KT w [(y4.heap.size, 35, rgtC ((i : Int) + 1) xv (!xr) xw xk), (y0.heap.size, 35, rgtC ((i : Int) + 1) xv xr xw xk)] ⟨some ⟨g, 0, none⟩, l.length, c⟩ l) => zz.ok.1.c (b := y4.heap.size) (T := 35) (vs := rgtC ((i : Int) + 1) xv (!xr) xw xk) (by simp) 0 _ rfl
    have cx1 := fun zz : Wd (KT w [(y4.heap.size, 35, rgtC ((i : Int) + 1) xv (!xr) xw xk), (y0.heap.size, 35, rgtC ((i : Int) + 1) xv xr xw xk)] ⟨some ⟨g, 0, none⟩, l.length, c⟩ l) => zz.ok.1.c (b := y4.heap.size) (T := 35) (vs := rgtC ((i : Int) + 1) xv (!xr) xw xk) (by simp) 1 _ rfl
    have cx2 := fun zz : Wd (KT w [(y4.heap.size, 35, rgtC ((i : Int) + 1) xv (!xr) xw xk), (y0.heap.size, 35, rgtC ((i : Int) + 1) xv xr xw xk)] ⟨some ⟨g, 0, none⟩, l.length, c⟩ l) => zz.ok.1.c (b := y4.heap.size) (T := 35) (vs := rgtC ((i : Int) + 1) xv (!xr) xw xk) (by simp) 2 _ rfl
    have cx3 := fun zz : Wd (KT w [(y4.heap.size, 35, rgtC ((i : Int) + 1) xv (!xr) xw xk), (y0.heap.size, 35, rgtC ((i : Int) + 1) xv xr xw xk)] ⟨some ⟨g, 0, none⟩, l.length, c⟩ l) => zz.ok.1.c (b := y4.heap.size) (T := 35) (vs := rgtC ((i : Int) + 1) xv (!xr) xw xk) (by simp) 3 _ rfl
    have cx4 := fun zz : Wd (KT w [(y4.heap.size, 35, rgtC ((i : Int) + 1) xv (!xr) xw xk), (y0.heap.size, 35, rgtC ((i : Int) + 1) xv xr xw xk)] ⟨some ⟨g, 0, none⟩, l.length, c⟩ l) => zz.ok.1.c (b := y4.heap.size) (T := 35) (vs := rgtC ((i : Int) + 1) xv (!xr) xw xk) (by simp) 4 _ rfl
    have cr0 := fun zz : Wd (KT w [(y4.heap.size, 35, rgtC ((i : Int) + 1) xv (!xr) xw xk), (y0.heap.size, 35, rgtC ((i : Int) + 1) xv xr xw xk)] ⟨some ⟨g, 0, none⟩, l.length, c⟩ l) => zz.ok.1.c (b := y0.heap.size) (T := 35) (vs := rgtC ((i : Int) + 1) xv xr xw xk) (by simp) 0 _ rfl
    have cr1 := fun zz : Wd (KT w [(y4.heap.size, 35, rgtC ((i : Int) + 1) xv (!xr) xw xk), (y0.heap.size, 35, rgtC ((i : Int) + 1) xv xr xw xk)] ⟨some ⟨g, 0, none⟩, l.length, c⟩ l) => zz.ok.1.c (b := y0.heap.size) (T := 35) (vs := rgtC ((i : Int) + 1) xv xr xw xk) (by simp) 1 _ rfl
    have ct : ∀ zz : Wd (KT w [(y4.heap.size, 35, rgtC ((i : Int) + 1) xv (!xr) xw xk), (y0.heap.size, 35, rgtC ((i : Int) + 1) xv xr xw xk)] ⟨some ⟨g, 0, none⟩, l.length, c⟩ l), zz.w.cell? ⟨g, i * 8 + 3, none⟩ = some (.int .i64 l[i].vers) := fun zz => by
      rcases zz.ok.2.2.2 with h | ⟨b, o, e, h⟩
      · rw [h] at hil; simp at hil
      · simp only [Option.some.injEq, Addr.mk.injEq] at e
        obtain ⟨rfl, rfl, -⟩ := e
        obtain ⟨ss, qs, -, -, hA⟩ := h i hil
        have := hA 3 _ rfl
        simpa using this
    have HARM := Lib.hid (fun zz : Wd (KT w [(y4.heap.size, 35, rgtC ((i : Int) + 1) xv (!xr) xw xk), (y0.heap.size, 35, rgtC ((i : Int) + 1) xv xr xw xk)] ⟨some ⟨g, 0, none⟩, l.length, c⟩ l) => implTabLive_val (s := ⟨some ⟨g, 0, none⟩, l.length, c⟩) (r := ⟨(i : Int) + 1, xv, !xr, xw, xk⟩) HX.out zz.w zz.ok.2 (HF.out.stay zz.ok.1.1) hz)
    have ne : Nonempty (Wd (KT w [(y4.heap.size, 35, rgtC ((i : Int) + 1) xv (!xr) xw xk), (y0.heap.size, 35, rgtC ((i : Int) + 1) xv xr xw xk)] ⟨some ⟨g, 0, none⟩, l.length, c⟩ l)) := ⟨⟨_, E0.out.drew⟩⟩
    refine wp_region_quiet (C := fun y => ∃ zz : Wd (KT w [(y4.heap.size, 35, rgtC ((i : Int) + 1) xv (!xr) xw xk), (y0.heap.size, 35, rgtC ((i : Int) + 1) xv xr xw xk)] ⟨some ⟨g, 0, none⟩, l.length, c⟩ l), y = zz.w) (by kernel_rfl) (by kernel_rfl) ⟨⟨_, E0.out.drew⟩, rfl⟩ ?_
    show wpQuiet _ _ _ _ [_, _, _, _, _, _, _, _, _, _, _, _, _, _, _, _, _, _, _, _] _
    repeat (first | go_big_quiet_step ((go_at_call 30; exact inCls KT.stay (HARM.out _))) | quiet_step ((go_at_call 30; exact inCls KT.stay (HARM.out _))))
    refine wpQuiet_nil ?_
    rintro _ ⟨t3, rfl⟩
    clear ne cx0 cx1 cx2 cx3 cx4 cr0 cr1 ct
    obtain ⟨y5, D5⟩ := t3
    dsimp only
    go_wp2
    go_ret
    exact ⟨rfl, D5.1.1⟩
  · go_wp2_with fail
    refine (specTabOk_val (s := ⟨some ⟨g, 0, none⟩, l.length, c⟩) HB1.out _ T2.out hz HZS.out).mono ?_
    rintro e y3 ⟨rfl, hb⟩
    have K3 := Lib.hid (K2.out.stay hb)
    have T3 := Lib.hid (T2.out.stay hb)
    clear hb K2 T2
    have c0 := K3.out.c (b := y0.heap.size) (T := 35) (vs := x.cs) (by simp) 0 _ rfl
    have c1 := K3.out.c (b := y0.heap.size) (T := 35) (vs := x.cs) (by simp) 1 _ rfl
    have c2 := K3.out.c (b := y0.heap.size) (T := 35) (vs := x.cs) (by simp) 2 _ rfl
    have c3 := K3.out.c (b := y0.heap.size) (T := 35) (vs := x.cs) (by simp) 3 _ rfl
    have c4 := K3.out.c (b := y0.heap.size) (T := 35) (vs := x.cs) (by simp) 4 _ rfl
    cases b1
    · go_wp2_with fail
      refine (FIN.out _ K3.out T3.out).mono ?_
      rintro e y4 ⟨rfl, hb⟩
      have HB := Lib.hid hb
      clear hb
      go_wp2
      go_ret
      exact ⟨rfl, HB.out⟩
    obtain ⟨b2, hb2⟩ : ∃ b2, x.ok = b2 := ⟨_, rfl⟩
    have HB2 := Lib.hid hb2
    clear hb2
    go_wp2_with fail
    refine (specROk_val HB2.out _).mono ?_
    rintro e y4 ⟨rfl, hb⟩
    have K4 := Lib.hid (K3.out.stay hb)
    have T4 := Lib.hid (T3.out.stay hb)
    clear hb K3 T3 c0 c1 c2 c3 c4
    have c0 := K4.out.c (b := y0.heap.size) (T := 35) (vs := x.cs) (by simp) 0 _ rfl
    have c1 := K4.out.c (b := y0.heap.size) (T := 35) (vs := x.cs) (by simp) 1 _ rfl
    have c2 := K4.out.c (b := y0.heap.size) (T := 35) (vs := x.cs) (by simp) 2 _ rfl
    have c3 := K4.out.c (b := y0.heap.size) (T := 35) (vs := x.cs) (by simp) 3 _ rfl
    have c4 := K4.out.c (b := y0.heap.size) (T := 35) (vs := x.cs) (by simp) 4 _ rfl
    cases b2
    · go_wp2_with fail
      refine (FIN.out _ K4.out T4.out).mono ?_
      rintro e y5 ⟨rfl, hb⟩
      have HB := Lib.hid hb
      clear hb
      go_wp2
      go_ret
      exact ⟨rfl, HB.out⟩
    have HL := Lib.hid (show liveB l x = true by have h := HV.out; simp only [tabLive, HB1.out, HB2.out, Bool.true_and] at h; exact h)
    obtain ⟨xb0, xb8⟩ := R5.bd HB2.out
    by_cases ht0 : x.t = 0
    · exact absurd HL.out (by simp [liveB, ht0, inR])
    by_cases htl : (l.length : Int) < x.t
    · exact absurd HL.out (by
        have : inR x.t 1 l.length = false := by simp [inR]; omega
        simp [liveB, this])
    obtain ⟨xt, xv, xr, xw, xk⟩ := x
    dsimp only at *
    obtain ⟨i, hi⟩ : ∃ i : Nat, xt = (i : Int) + 1 := ⟨(xt - 1).toNat, by omega⟩
    subst hi
    have hil : i < l.length := by omega
    have hil' : (i : Int) < (l.length : Int) := by omega
    have hq : (l[i].vers == xv) = true := by
      have h := HL.out
      have h1 : inR ((i : Int) + 1) 1 l.length = true := by simp [inR]; omega
      simp only [liveB, h1, Bool.true_and] at h
      rw [versAt_of hil (show (i : Int) + 1 - 1 = i by omega)] at h
      exact h
    have HX := Lib.hid (show tabLive l ⟨(i : Int) + 1, xv, !xr, xw, xk⟩ = true by
      have ho : (⟨(i : Int) + 1, xv, !xr, xw, xk⟩ : R5).ok = true := ok_read HB2.out (by omega) _
      have h := HL.out
      simp only [tabLive, HB1.out, ho, Bool.true_and]
      exact h)
    have hw : wrap64 ((i : Int) + 1 - 1) = (i : Int) := by unfold wrap64; omega
    have ht0' : (((i : Int) + 1) == 0) = false := by simp; omega
    have hi1 : ¬ (i : Int) + 1 = 0 := by omega
    have E0 : Hid (KT w [(y4.heap.size, 35, rgtC ((i : Int) + 1) xv (!xr) xw xk), (y0.heap.size, 35, rgtC ((i : Int) + 1) xv xr xw xk)] ⟨some ⟨g, 0, none⟩, l.length, c⟩ l (y4.alloc (.cells (rgtC ((i : Int) + 1) xv (!xr) xw xk) 35))) := Lib.hid ⟨K4.out.new 35 (rgtC ((i : Int) + 1) xv (!xr) xw xk), T4.out.stay ((Below.refl _ _).alloc (Nat.le_refl _) _)⟩
    have hyl := (K4.out.box (b := y0.heap.size) (T := 35) (vs := rgtC ((i : Int) + 1) xv xr xw xk) (by simp)).lt
    go_upto_region 11 with fail
    clear c0 c1 c2 c3 c4 K4 T4
    have cx0 := fun zz : Wd (KT w [(y4.heap.size, 35, rgtC ((i : Int) + 1) xv (!xr) xw xk), (y0.heap.size, 35, rgtC ((i : Int) + 1) xv xr xw xk)] ⟨some ⟨g, 0, none⟩, l.length, c⟩ l) => zz.ok.1.c (b := y4.heap.size) (T := 35) (vs := rgtC ((i : Int) + 1) xv (!xr) xw xk) (by simp) 0 _ rfl
    have cx1 := fun zz : Wd (KT w [(y4.heap.size, 35, rgtC ((i : Int) + 1) xv (!xr) xw xk), (y0.heap.size, 35, rgtC ((i : Int) + 1) xv xr xw xk)] ⟨some ⟨g, 0, none⟩, l.length, c⟩ l) => zz.ok.1.c (b := y4.heap.size) (T := 35) (vs := rgtC ((i : Int) + 1) xv (!xr) xw xk) (by simp) 1 _ rfl
    have cx2 := fun zz : Wd (KT w [(y4.heap.size, 35, rgtC ((i : Int) + 1) xv (!xr) xw xk), (y0.heap.size, 35, rgtC ((i : Int) + 1) xv xr xw xk)] ⟨some ⟨g, 0, none⟩, l.length, c⟩ l) => zz.ok.1.c (b := y4.heap.size) (T := 35) (vs := rgtC ((i : Int) + 1) xv (!xr) xw xk) (by simp) 2 _ rfl
    have cx3 := fun zz : Wd (KT w [(y4.heap.size, 35, rgtC ((i : Int) + 1) xv (!xr) xw xk), (y0.heap.size, 35, rgtC ((i : Int) + 1) xv xr xw xk)] ⟨some ⟨g, 0, none⟩, l.length, c⟩ l) => zz.ok.1.c (b := y4.heap.size) (T := 35) (vs := rgtC ((i : Int) + 1) xv (!xr) xw xk) (by simp) 3 _ rfl
    have cx4 := fun zz : Wd (KT w [(y4.heap.size, 35, rgtC ((i : Int) + 1) xv (!xr) xw xk), (y0.heap.size, 35, rgtC ((i : Int) + 1) xv xr xw xk)] ⟨some ⟨g, 0, none⟩, l.length, c⟩ l) => zz.ok.1.c (b := y4.heap.size) (T := 35) (vs := rgtC ((i : Int) + 1) xv (!xr) xw xk) (by simp) 4 _ rfl
    have cr0 := fun zz : Wd (KT w [(y4.heap.size, 35, rgtC ((i : Int) + 1) xv (!xr) xw xk), (y0.heap.size, 35, rgtC ((i : Int) + 1) xv xr xw xk)] ⟨some ⟨g, 0, none⟩, l.length, c⟩ l) => zz.ok.1.c (b := y0.heap.size) (T := 35) (vs := rgtC ((i : Int) + 1) xv xr xw xk) (by simp) 0 _ rfl
    have cr1 := fun zz : Wd (KT w [(y4.heap.size, 35, rgtC ((i : Int) + 1) xv (!xr) xw xk), (y0.heap.size, 35, rgtC ((i : Int) + 1) xv xr xw xk)] ⟨some ⟨g, 0, none⟩, l.length, c⟩ l) => zz.ok.1.c (b := y0.heap.size) (T := 35) (vs := rgtC ((i : Int) + 1) xv xr xw xk) (by simp) 1 _ rfl
    have ct : ∀ zz : Wd (KT w [(y4.heap.size, 35, rgtC ((i : Int) + 1) xv (!xr) xw xk), (y0.heap.size, 35, rgtC ((i : Int) + 1) xv xr xw xk)] ⟨some ⟨g, 0, none⟩, l.length, c⟩ l), zz.w.cell? ⟨g, i * 8 + 3, none⟩ = some (.int .i64 l[i].vers) := fun zz => by
      rcases zz.ok.2.2.2 with h | ⟨b, o, e, h⟩
      · rw [h] at hil; simp at hil
      · simp only [Option.some.injEq, Addr.mk.injEq] at e
        obtain ⟨rfl, rfl, -⟩ := e
        obtain ⟨ss, qs, -, -, hA⟩ := h i hil
        have := hA 3 _ rfl
        simpa using this
    have HARM := Lib.hid (fun zz : Wd (KT w [(y4.heap.size, 35, rgtC ((i : Int) + 1) xv (!xr) xw xk), (y0.heap.size, 35, rgtC ((i : Int) + 1) xv xr xw xk)] ⟨some ⟨g, 0, none⟩, l.length, c⟩ l) => implTabLive_val (s := ⟨some ⟨g, 0, none⟩, l.length, c⟩) (r := ⟨(i : Int) + 1, xv, !xr, xw, xk⟩) HX.out zz.w zz.ok.2 (HF.out.stay zz.ok.1.1) hz)
    have ne : Nonempty (Wd (KT w [(y4.heap.size, 35, rgtC ((i : Int) + 1) xv (!xr) xw xk), (y0.heap.size, 35, rgtC ((i : Int) + 1) xv xr xw xk)] ⟨some ⟨g, 0, none⟩, l.length, c⟩ l)) := ⟨⟨_, E0.out.drew⟩⟩
    refine wp_region_quiet (C := fun y => ∃ zz : Wd (KT w [(y4.heap.size, 35, rgtC ((i : Int) + 1) xv (!xr) xw xk), (y0.heap.size, 35, rgtC ((i : Int) + 1) xv xr xw xk)] ⟨some ⟨g, 0, none⟩, l.length, c⟩ l), y = zz.w) (by kernel_rfl) (by kernel_rfl) ⟨⟨_, E0.out.drew⟩, rfl⟩ ?_
    show wpQuiet _ _ _ _ [_, _, _, _, _, _, _, _, _, _, _, _, _, _, _, _, _, _, _, _] _
    repeat (first | go_big_quiet_step ((go_at_call 30; exact inCls KT.stay (HARM.out _))) | quiet_step ((go_at_call 30; exact inCls KT.stay (HARM.out _))))
    refine wpQuiet_nil ?_
    rintro _ ⟨t3, rfl⟩
    clear ne cx0 cx1 cx2 cx3 cx4 cr0 cr1 ct
    obtain ⟨y5, D5⟩ := t3
    dsimp only
    go_wp2
    go_ret
    exact ⟨rfl, D5.1.1⟩
end Go.Proofs.YtnfalnmidddkjaaDoor
