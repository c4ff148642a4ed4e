/-
  A drawn thing: whatever the code, one comes that owns what it holds.
-/
import Derived.Test.YtpahahonopiblaaDoorThM
import Derived.Test.YtpahahonopiblaaDoorThgN
import Derived.Deep.RegionWith
import Derived.Deep.RegionLaw
namespace Go.Proofs.YtpahahonopiblaaDoor
open Go.RowKit
set_option maxRecDepth 100000
set_option linter.unusedVariables false


set_option maxHeartbeats 8000000 in
theorem l71Thing_any (r : Nat) (a : Option Addr) (len cap : Nat) (zs : List Int) (p : Nat) (kind tt : Int) (w : World) (hR : Rd w r a len cap zs p) (hp : p ≤ 800000) :
    Calls Tryd.prog 95 #[.pointer (some ⟨r, 0, none⟩), .int .i64 kind, .int .i64 tt] w (ThPost r a len cap zs p w) := by
  have S0 := Lib.hid ((St.start hR).new 37 #[.int .i64 0, .int .i64 0, .int .i64 0, .int .i64 0, .int .i64 0, .slice none 0 0, .slice none 0 0, .int .i64 0])
  have hrw := S0.out.2.2.1
  clear hR
  unfold ThPost
  go_enter Tryd.func95, Tryd.ntmps95
  go_wp2_with fail
  refine (l71Label_any _ a _ cap zs p _ S0.out.2.1 (by omega)).mono ?_
  rintro e w2 ⟨sv, vv, -, -, -, rfl, p1, hp1, r1, g1⟩
  have S1 := Lib.hid (S0.out.on g1 r1)
  clear r1 g1 S0
  go_wp2_with fail
  refine (specTNew_th kind sv vv tt _).mono ?_
  rintro e y ⟨x, s, q, ok, rfl, hx, hb⟩
  have hz2 := S1.out.1.1.size
  have hB : w.heap.size < y.heap.size := Nat.lt_of_lt_of_le (S1.out.1.box (b := w.heap.size) (T := 37) (vs := #[.int .i64 0, .int .i64 0, .int .i64 0, .int .i64 0, .int .i64 0, .slice none 0 0, .slice none 0 0, .int .i64 0]) (by simp)).lt hb.size
  obtain ⟨Y, hY⟩ : ∃ Y, y.alloc (.cells (x.cs s q) 37) = Y := ⟨_, rfl⟩
  have s2 := (S1.out.stay hb).new 37 (x.cs s q)
  have hal : Below y.heap.size y (y.alloc (.cells (x.cs s q) 37)) := (Below.refl _ _).alloc (Nat.le_refl _) _
  rw [hY] at s2 hal
  have S2 := Lib.hid s2
  have HAL := Lib.hid hal
  clear hb S1 hal s2
  have cK : Y.cell? ⟨y.heap.size, 0, none⟩ = some (.int .i64 x.kind) := S2.out.1.c (b := y.heap.size) (T := 37) (vs := x.cs s q) (by simp) 0 _ rfl
  by_cases h0 : x.kind = 0
  · clear hx HAL
    rw [h0] at cK
    clear h0
    go_wp2_with fail
    refine (specTNew_page _).mono ?_
    rintro e y2 ⟨x2, s2, q2, rfl, hk, hq2, ht2, hb2⟩
    have hz3 := S2.out.1.1.size
    have S3 := Lib.hid (S2.out.stay hb2)
    have TH3 := Lib.hid (ht2.less hz3)
    clear hb2 ht2 cK
    have bX := S3.out.1.box (b := y.heap.size) (T := 37) (vs := x.cs s q) (by simp)
    have S4 := Lib.hid (S3.out.row (by simp; omega) (x2.cs s2 q2))
    have TH4 := Lib.hid (TH3.out.row bX (x2.cs s2 q2))
    have HQE := Lib.hid hq2
    have c0 := S4.out.1.c (b := y.heap.size) (T := 37) (vs := x2.cs s2 q2) (by simp) 0 _ rfl
    rw [show (x2.cs s2 q2)[0]'(by simp) = Value.int .i64 1 by simp [hk]] at c0
    have HKK := Lib.hid hk
    clear hk
    go_wp2_with (refine wpList_store_rowTo rfl 37 (.tmp 7) (.tmp 24) rfl rfl y.heap.size (x2.cs s2 q2) rfl rfl 37 (x.cs s q) bX infoT rfl (one8 x2 s2 q2) ?_)
    refine (pick_any _ a _ cap zs p1 20 _ S4.out.2.1 (by omega) (by decide) (by decide)).mono ?_
    rintro e w3 ⟨n1, n1a, n1b, rfl, r3, g3, -⟩
    have S5 := Lib.hid (S4.out.on g3 r3)
    have T5 := Lib.hid (TH4.out.grew hrw g3)
    clear r3 g3 c0
    have c4 := S5.out.1.c (b := y.heap.size) (T := 37) (vs := x2.cs s2 q2) (by simp) 4 _ rfl
    have f4 := S5.out.1.f (b := y.heap.size) (T := 37) (vs := x2.cs s2 q2) (by simp) 4
    have S6 := S5.out.put (by simp; omega) 4 (.int .i64 n1)
    rw [putNum] at S6
    have T6 := Lib.hid ((T5.out.put (S5.out.1.box (b := y.heap.size) (T := 37) (vs := x2.cs s2 q2) (by simp)) (i := 4) (.int .i64 n1)).as (y := { x2 with num := n1 }) rfl rfl)
    have H6 := Lib.hid S6
    clear S6
    go_wp2_with fail
    refine (pick_any _ a _ cap zs (p1 + 1) 3 _ H6.out.2.1 (by omega) (by decide) (by decide)).mono ?_
    rintro e w4 ⟨n2, n2a, n2b, rfl, r4, g4, -⟩
    have S7 := Lib.hid (H6.out.on g4 r4)
    have T7 := Lib.hid (T6.out.grew hrw g4)
    clear r4 g4 c4 f4
    have c3 := S7.out.1.c (b := y.heap.size) (T := 37) (vs := ({ x2 with num := n1 } : T8).cs s2 q2) (by simp) 3 _ rfl
    have f3 := S7.out.1.f (b := y.heap.size) (T := 37) (vs := ({ x2 with num := n1 } : T8).cs s2 q2) (by simp) 3
    have hcase : n2 = 0 ∨ n2 = 1 ∨ n2 = 2 := by omega
    rcases hcase with rfl | rfl | rfl
    · have S8 := S7.out.put (by simp; omega) 3 (.int .i64 0)
      rw [putVers] at S8
      have H8 := Lib.hid S8
      have T8' := Lib.hid ((T7.out.put (S7.out.1.box (b := y.heap.size) (T := 37) (vs := ({ x2 with num := n1 } : T8).cs s2 q2) (by simp)) (i := 3) (.int .i64 0)).as (y := ({ x2 with num := n1, vers := 0 } : T8)) rfl rfl)
      clear S8
      have bX := H8.out.1.box (b := y.heap.size) (T := 37) (vs := ({ x2 with num := n1, vers := 0 } : T8).cs s2 q2) (by simp)
      have bR := H8.out.1.box (b := w.heap.size) (T := 37) (vs := #[.int .i64 0, .int .i64 0, .int .i64 0, .int .i64 0, .int .i64 0, .slice none 0 0, .slice none 0 0, .int .i64 0]) (by simp)
      go_wp2_with (first
        | refine wpList_load_row rfl 37 (.tmp 7) rfl y.heap.size rfl 37 (({ x2 with num := n1, vers := 0 } : T8).cs s2 q2) (0, 0) _ bX Tryd.underlying37 rfl infoT ?_
        | refine wpList_store_rowTo rfl 37 (.tmp 6) (.tmp 58) rfl rfl w.heap.size (({ x2 with num := n1, vers := 0 } : T8).cs s2 q2) rfl rfl 37 #[.int .i64 0, .int .i64 0, .int .i64 0, .int .i64 0, .int .i64 0, .slice none 0 0, .slice none 0 0, .int .i64 0] bR infoT rfl (one8 ({ x2 with num := n1, vers := 0 } : T8) s2 q2) ?_)
      have hfin := (H8.out.less (L' := [(w.heap.size, 37, #[.int .i64 0, .int .i64 0, .int .i64 0, .int .i64 0, .int .i64 0, .slice none 0 0, .slice none 0 0, .int .i64 0])]) (by simp)).row (by simp) (({ x2 with num := n1, vers := 0 } : T8).cs s2 q2)
      refine bodyPost_ret (results_row Tryd.results95 _ _ w.heap.size 37 (({ x2 with num := n1, vers := 0 } : T8).cs s2 q2) _ rfl (setRow_box bR _) Tryd.underlying37 rfl infoT) rfl ⟨({ x2 with num := n1, vers := 0 } : T8), s2, q2, rfl, T8'.out.row bR _, ?_, ?_, ?_, _, ?_, hfin.2.1, hfin.1.1⟩
      · simp [HQE.out]
      · simp [HKK.out]
      · simp [HKK.out]
      · omega
    · have S8 := S7.out.put (by simp; omega) 3 (.int .i64 0)
      rw [putVers] at S8
      have H8 := Lib.hid S8
      have T8' := Lib.hid ((T7.out.put (S7.out.1.box (b := y.heap.size) (T := 37) (vs := ({ x2 with num := n1 } : T8).cs s2 q2) (by simp)) (i := 3) (.int .i64 0)).as (y := ({ x2 with num := n1, vers := 0 } : T8)) rfl rfl)
      clear S8
      have bX := H8.out.1.box (b := y.heap.size) (T := 37) (vs := ({ x2 with num := n1, vers := 0 } : T8).cs s2 q2) (by simp)
      have bR := H8.out.1.box (b := w.heap.size) (T := 37) (vs := #[.int .i64 0, .int .i64 0, .int .i64 0, .int .i64 0, .int .i64 0, .slice none 0 0, .slice none 0 0, .int .i64 0]) (by simp)
      go_wp2_with (first
        | refine wpList_load_row rfl 37 (.tmp 7) rfl y.heap.size rfl 37 (({ x2 with num := n1, vers := 0 } : T8).cs s2 q2) (0, 0) _ bX Tryd.underlying37 rfl infoT ?_
        | refine wpList_store_rowTo rfl 37 (.tmp 6) (.tmp 58) rfl rfl w.heap.size (({ x2 with num := n1, vers := 0 } : T8).cs s2 q2) rfl rfl 37 #[.int .i64 0, .int .i64 0, .int .i64 0, .int .i64 0, .int .i64 0, .slice none 0 0, .slice none 0 0, .int .i64 0] bR infoT rfl (one8 ({ x2 with num := n1, vers := 0 } : T8) s2 q2) ?_)
      have hfin := (H8.out.less (L' := [(w.heap.size, 37, #[.int .i64 0, .int .i64 0, .int .i64 0, .int .i64 0, .int .i64 0, .slice none 0 0, .slice none 0 0, .int .i64 0])]) (by simp)).row (by simp) (({ x2 with num := n1, vers := 0 } : T8).cs s2 q2)
      refine bodyPost_ret (results_row Tryd.results95 _ _ w.heap.size 37 (({ x2 with num := n1, vers := 0 } : T8).cs s2 q2) _ rfl (setRow_box bR _) Tryd.underlying37 rfl infoT) rfl ⟨({ x2 with num := n1, vers := 0 } : T8), s2, q2, rfl, T8'.out.row bR _, ?_, ?_, ?_, _, ?_, hfin.2.1, hfin.1.1⟩
      · simp [HQE.out]
      · simp [HKK.out]
      · simp [HKK.out]
      · omega
    · have S8 := S7.out.put (by simp; omega) 3 (.int .i64 1)
      rw [putVers] at S8
      have H8 := Lib.hid S8
      have T8' := Lib.hid ((T7.out.put (S7.out.1.box (b := y.heap.size) (T := 37) (vs := ({ x2 with num := n1 } : T8).cs s2 q2) (by simp)) (i := 3) (.int .i64 1)).as (y := ({ x2 with num := n1, vers := 1 } : T8)) rfl rfl)
      clear S8
      have bX := H8.out.1.box (b := y.heap.size) (T := 37) (vs := ({ x2 with num := n1, vers := 1 } : T8).cs s2 q2) (by simp)
      have bR := H8.out.1.box (b := w.heap.size) (T := 37) (vs := #[.int .i64 0, .int .i64 0, .int .i64 0, .int .i64 0, .int .i64 0, .slice none 0 0, .slice none 0 0, .int .i64 0]) (by simp)
      go_wp2_with (first
        | refine wpList_load_row rfl 37 (.tmp 7) rfl y.heap.size rfl 37 (({ x2 with num := n1, vers := 1 } : T8).cs s2 q2) (0, 0) _ bX Tryd.underlying37 rfl infoT ?_
        | refine wpList_store_rowTo rfl 37 (.tmp 6) (.tmp 58) rfl rfl w.heap.size (({ x2 with num := n1, vers := 1 } : T8).cs s2 q2) rfl rfl 37 #[.int .i64 0, .int .i64 0, .int .i64 0, .int .i64 0, .int .i64 0, .slice none 0 0, .slice none 0 0, .int .i64 0] bR infoT rfl (one8 ({ x2 with num := n1, vers := 1 } : T8) s2 q2) ?_)
      have hfin := (H8.out.less (L' := [(w.heap.size, 37, #[.int .i64 0, .int .i64 0, .int .i64 0, .int .i64 0, .int .i64 0, .slice none 0 0, .slice none 0 0, .int .i64 0])]) (by simp)).row (by simp) (({ x2 with num := n1, vers := 1 } : T8).cs s2 q2)
      refine bodyPost_ret (results_row Tryd.results95 _ _ w.heap.size 37 (({ x2 with num := n1, vers := 1 } : T8).cs s2 q2) _ rfl (setRow_box bR _) Tryd.underlying37 rfl infoT) rfl ⟨({ x2 with num := n1, vers := 1 } : T8), s2, q2, rfl, T8'.out.row bR _, ?_, ?_, ?_, _, ?_, hfin.2.1, hfin.1.1⟩
      · simp [HQE.out]
      · simp [HKK.out]
      · simp [HKK.out]
      · omega
  · have hx' := hx.resolve_left h0
    obtain ⟨k1, k5, hq, ht⟩ := hx'
    have h0' : (x.kind == 0) = false := by simpa using h0
    have TH := Lib.hid ((ht.less hz2).stay HAL.out)
    have HQE := Lib.hid hq
    clear hx ht hq HAL h0
    have c0 := cK
    clear cK
    have hkk : x.kind = 1 ∨ x.kind = 2 ∨ x.kind = 3 ∨ x.kind = 4 ∨ x.kind = 5 := by omega
    clear k1 k5 h0'
    rcases hkk with hk | hk | hk | hk | hk
    · rw [hk] at c0
      have HKK := Lib.hid hk
      clear hk
      go_wp2_with fail
      refine (pick_any _ a _ cap zs p1 20 _ S2.out.2.1 (by omega) (by decide) (by decide)).mono ?_
      rintro e w3 ⟨n1, n1a, n1b, rfl, r3, g3, -⟩
      have S5 := Lib.hid (S2.out.on g3 r3)
      have T5 := Lib.hid (TH.out.grew hrw g3)
      clear r3 g3 c0
      have c4 := S5.out.1.c (b := y.heap.size) (T := 37) (vs := x.cs s q) (by simp) 4 _ rfl
      have f4 := S5.out.1.f (b := y.heap.size) (T := 37) (vs := x.cs s q) (by simp) 4
      have S6 := S5.out.put (by simp; omega) 4 (.int .i64 n1)
      rw [putNum] at S6
      have T6 := Lib.hid ((T5.out.put (S5.out.1.box (b := y.heap.size) (T := 37) (vs := x.cs s q) (by simp)) (i := 4) (.int .i64 n1)).as (y := { x with num := n1 }) rfl rfl)
      have H6 := Lib.hid S6
      clear S6
      go_wp2_with fail
      refine (pick_any _ a _ cap zs (p1 + 1) 3 _ H6.out.2.1 (by omega) (by decide) (by decide)).mono ?_
      rintro e w4 ⟨n2, n2a, n2b, rfl, r4, g4, -⟩
      have S7 := Lib.hid (H6.out.on g4 r4)
      have T7 := Lib.hid (T6.out.grew hrw g4)
      clear r4 g4 c4 f4
      have c3 := S7.out.1.c (b := y.heap.size) (T := 37) (vs := ({ x with num := n1 } : T8).cs s q) (by simp) 3 _ rfl
      have f3 := S7.out.1.f (b := y.heap.size) (T := 37) (vs := ({ x with num := n1 } : T8).cs s q) (by simp) 3
      have hcase : n2 = 0 ∨ n2 = 1 ∨ n2 = 2 := by omega
      rcases hcase with rfl | rfl | rfl
      · have S8 := S7.out.put (by simp; omega) 3 (.int .i64 0)
        rw [putVers] at S8
        have H8 := Lib.hid S8
        have T8' := Lib.hid ((T7.out.put (S7.out.1.box (b := y.heap.size) (T := 37) (vs := ({ x with num := n1 } : T8).cs s q) (by simp)) (i := 3) (.int .i64 0)).as (y := ({ x with num := n1, vers := 0 } : T8)) rfl rfl)
        clear S8
        have bX := H8.out.1.box (b := y.heap.size) (T := 37) (vs := ({ x with num := n1, vers := 0 } : T8).cs s q) (by simp)
        have bR := H8.out.1.box (b := w.heap.size) (T := 37) (vs := #[.int .i64 0, .int .i64 0, .int .i64 0, .int .i64 0, .int .i64 0, .slice none 0 0, .slice none 0 0, .int .i64 0]) (by simp)
        go_wp2_with (first
          | refine wpList_load_row rfl 37 (.tmp 7) rfl y.heap.size rfl 37 (({ x with num := n1, vers := 0 } : T8).cs s q) (0, 0) _ bX Tryd.underlying37 rfl infoT ?_
          | refine wpList_store_rowTo rfl 37 (.tmp 6) (.tmp 58) rfl rfl w.heap.size (({ x with num := n1, vers := 0 } : T8).cs s q) rfl rfl 37 #[.int .i64 0, .int .i64 0, .int .i64 0, .int .i64 0, .int .i64 0, .slice none 0 0, .slice none 0 0, .int .i64 0] bR infoT rfl (one8 ({ x with num := n1, vers := 0 } : T8) s q) ?_)
        have hfin := (H8.out.less (L' := [(w.heap.size, 37, #[.int .i64 0, .int .i64 0, .int .i64 0, .int .i64 0, .int .i64 0, .slice none 0 0, .slice none 0 0, .int .i64 0])]) (by simp)).row (by simp) (({ x with num := n1, vers := 0 } : T8).cs s q)
        refine bodyPost_ret (results_row Tryd.results95 _ _ w.heap.size 37 (({ x with num := n1, vers := 0 } : T8).cs s q) _ rfl (setRow_box bR _) Tryd.underlying37 rfl infoT) rfl ⟨({ x with num := n1, vers := 0 } : T8), s, q, rfl, T8'.out.row bR _, ?_, ?_, ?_, _, ?_, hfin.2.1, hfin.1.1⟩
        · simp [HQE.out]
        · simp [HKK.out]
        · simp [HKK.out]
        · omega
      · have S8 := S7.out.put (by simp; omega) 3 (.int .i64 0)
        rw [putVers] at S8
        have H8 := Lib.hid S8
        have T8' := Lib.hid ((T7.out.put (S7.out.1.box (b := y.heap.size) (T := 37) (vs := ({ x with num := n1 } : T8).cs s q) (by simp)) (i := 3) (.int .i64 0)).as (y := ({ x with num := n1, vers := 0 } : T8)) rfl rfl)
        clear S8
        have bX := H8.out.1.box (b := y.heap.size) (T := 37) (vs := ({ x with num := n1, vers := 0 } : T8).cs s q) (by simp)
        have bR := H8.out.1.box (b := w.heap.size) (T := 37) (vs := #[.int .i64 0, .int .i64 0, .int .i64 0, .int .i64 0, .int .i64 0, .slice none 0 0, .slice none 0 0, .int .i64 0]) (by simp)
        go_wp2_with (first
          | refine wpList_load_row rfl 37 (.tmp 7) rfl y.heap.size rfl 37 (({ x with num := n1, vers := 0 } : T8).cs s q) (0, 0) _ bX Tryd.underlying37 rfl infoT ?_
          | refine wpList_store_rowTo rfl 37 (.tmp 6) (.tmp 58) rfl rfl w.heap.size (({ x with num := n1, vers := 0 } : T8).cs s q) rfl rfl 37 #[.int .i64 0, .int .i64 0, .int .i64 0, .int .i64 0, .int .i64 0, .slice none 0 0, .slice none 0 0, .int .i64 0] bR infoT rfl (one8 ({ x with num := n1, vers := 0 } : T8) s q) ?_)
        have hfin := (H8.out.less (L' := [(w.heap.size, 37, #[.int .i64 0, .int .i64 0, .int .i64 0, .int .i64 0, .int .i64 0, .slice none 0 0, .slice none 0 0, .int .i64 0])]) (by simp)).row (by simp) (({ x with num := n1, vers := 0 } : T8).cs s q)
        refine bodyPost_ret (results_row Tryd.results95 _ _ w.heap.size 37 (({ x with num := n1, vers := 0 } : T8).cs s q) _ rfl (setRow_box bR _) Tryd.underlying37 rfl infoT) rfl ⟨({ x with num := n1, vers := 0 } : T8), s, q, rfl, T8'.out.row bR _, ?_, ?_, ?_, _, ?_, hfin.2.1, hfin.1.1⟩
        · simp [HQE.out]
        · simp [HKK.out]
        · simp [HKK.out]
        · omega
      · have S8 := S7.out.put (by simp; omega) 3 (.int .i64 1)
        rw [putVers] at S8
        have H8 := Lib.hid S8
        have T8' := Lib.hid ((T7.out.put (S7.out.1.box (b := y.heap.size) (T := 37) (vs := ({ x with num := n1 } : T8).cs s q) (by simp)) (i := 3) (.int .i64 1)).as (y := ({ x with num := n1, vers := 1 } : T8)) rfl rfl)
        clear S8
        have bX := H8.out.1.box (b := y.heap.size) (T := 37) (vs := ({ x with num := n1, vers := 1 } : T8).cs s q) (by simp)
        have bR := H8.out.1.box (b := w.heap.size) (T := 37) (vs := #[.int .i64 0, .int .i64 0, .int .i64 0, .int .i64 0, .int .i64 0, .slice none 0 0, .slice none 0 0, .int .i64 0]) (by simp)
        go_wp2_with (first
          | refine wpList_load_row rfl 37 (.tmp 7) rfl y.heap.size rfl 37 (({ x with num := n1, vers := 1 } : T8).cs s q) (0, 0) _ bX Tryd.underlying37 rfl infoT ?_
          | refine wpList_store_rowTo rfl 37 (.tmp 6) (.tmp 58) rfl rfl w.heap.size (({ x with num := n1, vers := 1 } : T8).cs s q) rfl rfl 37 #[.int .i64 0, .int .i64 0, .int .i64 0, .int .i64 0, .int .i64 0, .slice none 0 0, .slice none 0 0, .int .i64 0] bR infoT rfl (one8 ({ x with num := n1, vers := 1 } : T8) s q) ?_)
        have hfin := (H8.out.less (L' := [(w.heap.size, 37, #[.int .i64 0, .int .i64 0, .int .i64 0, .int .i64 0, .int .i64 0, .slice none 0 0, .slice none 0 0, .int .i64 0])]) (by simp)).row (by simp) (({ x with num := n1, vers := 1 } : T8).cs s q)
        refine bodyPost_ret (results_row Tryd.results95 _ _ w.heap.size 37 (({ x with num := n1, vers := 1 } : T8).cs s q) _ rfl (setRow_box bR _) Tryd.underlying37 rfl infoT) rfl ⟨({ x with num := n1, vers := 1 } : T8), s, q, rfl, T8'.out.row bR _, ?_, ?_, ?_, _, ?_, hfin.2.1, hfin.1.1⟩
        · simp [HQE.out]
        · simp [HKK.out]
        · simp [HKK.out]
        · omega
    · rw [hk] at c0
      have HKK := Lib.hid hk
      clear hk
      have bX := S2.out.1.box (b := y.heap.size) (T := 37) (vs := x.cs s q) (by simp)
      have bR := S2.out.1.box (b := w.heap.size) (T := 37) (vs := #[.int .i64 0, .int .i64 0, .int .i64 0, .int .i64 0, .int .i64 0, .slice none 0 0, .slice none 0 0, .int .i64 0]) (by simp)
      go_wp2_with (first
        | refine wpList_load_row rfl 37 (.tmp 7) rfl y.heap.size rfl 37 (x.cs s q) (0, 0) _ bX Tryd.underlying37 rfl infoT ?_
        | refine wpList_store_rowTo rfl 37 (.tmp 6) (.tmp 58) rfl rfl w.heap.size (x.cs s q) rfl rfl 37 #[.int .i64 0, .int .i64 0, .int .i64 0, .int .i64 0, .int .i64 0, .slice none 0 0, .slice none 0 0, .int .i64 0] bR infoT rfl (one8 x s q) ?_)
      have hfin := (S2.out.less (L' := [(w.heap.size, 37, #[.int .i64 0, .int .i64 0, .int .i64 0, .int .i64 0, .int .i64 0, .slice none 0 0, .slice none 0 0, .int .i64 0])]) (by simp)).row (by simp) (x.cs s q)
      refine bodyPost_ret (results_row Tryd.results95 _ _ w.heap.size 37 (x.cs s q) _ rfl (setRow_box bR _) Tryd.underlying37 rfl infoT) rfl ⟨x, s, q, rfl, TH.out.row bR _, ?_, ?_, ?_, _, ?_, hfin.2.1, hfin.1.1⟩
      · simp [HQE.out]
      · simp [HKK.out]
      · simp [HKK.out]
      · omega
    · rw [hk] at c0
      have HKK := Lib.hid hk
      clear hk
      go_wp2_with fail
      refine (pick_any _ a _ cap zs p1 24 _ S2.out.2.1 (by omega) (by decide) (by decide)).mono ?_
      rintro e w3 ⟨n1, n1a, n1b, rfl, r3, g3, -⟩
      have S5 := Lib.hid (S2.out.on g3 r3)
      have T5 := Lib.hid (TH.out.grew hrw g3)
      clear r3 g3 c0
      have e4 : wrap64 (n1 - 4) = n1 - 4 := by unfold wrap64; omega
      have c4 := S5.out.1.c (b := y.heap.size) (T := 37) (vs := x.cs s q) (by simp) 4 _ rfl
      have f4 := S5.out.1.f (b := y.heap.size) (T := 37) (vs := x.cs s q) (by simp) 4
      have S6 := S5.out.put (by simp; omega) 4 (.int .i64 (n1 - 4))
      rw [putNum] at S6
      have T6 := Lib.hid ((T5.out.put (S5.out.1.box (b := y.heap.size) (T := 37) (vs := x.cs s q) (by simp)) (i := 4) (.int .i64 (n1 - 4))).as (y := ({ x with num := n1 - 4 } : T8)) rfl rfl)
      have H6 := Lib.hid S6
      clear S6
      have bX := H6.out.1.box (b := y.heap.size) (T := 37) (vs := ({ x with num := n1 - 4 } : T8).cs s q) (by simp)
      have bR := H6.out.1.box (b := w.heap.size) (T := 37) (vs := #[.int .i64 0, .int .i64 0, .int .i64 0, .int .i64 0, .int .i64 0, .slice none 0 0, .slice none 0 0, .int .i64 0]) (by simp)
      go_wp2_with (first
        | refine wpList_load_row rfl 37 (.tmp 7) rfl y.heap.size rfl 37 (({ x with num := n1 - 4 } : T8).cs s q) (0, 0) _ bX Tryd.underlying37 rfl infoT ?_
        | refine wpList_store_rowTo rfl 37 (.tmp 6) (.tmp 58) rfl rfl w.heap.size (({ x with num := n1 - 4 } : T8).cs s q) rfl rfl 37 #[.int .i64 0, .int .i64 0, .int .i64 0, .int .i64 0, .int .i64 0, .slice none 0 0, .slice none 0 0, .int .i64 0] bR infoT rfl (one8 ({ x with num := n1 - 4 } : T8) s q) ?_)
      have hfin := (H6.out.less (L' := [(w.heap.size, 37, #[.int .i64 0, .int .i64 0, .int .i64 0, .int .i64 0, .int .i64 0, .slice none 0 0, .slice none 0 0, .int .i64 0])]) (by simp)).row (by simp) (({ x with num := n1 - 4 } : T8).cs s q)
      refine bodyPost_ret (results_row Tryd.results95 _ _ w.heap.size 37 (({ x with num := n1 - 4 } : T8).cs s q) _ rfl (setRow_box bR _) Tryd.underlying37 rfl infoT) rfl ⟨({ x with num := n1 - 4 } : T8), s, q, rfl, T6.out.row bR _, ?_, ?_, ?_, _, ?_, hfin.2.1, hfin.1.1⟩
      · simp [HQE.out]
      · simp [HKK.out]
      · simp [HKK.out]
      · omega
    · rw [hk] at c0
      have HKK := Lib.hid hk
      clear hk
      go_wp2_with fail
      refine (pick_any _ a _ cap zs p1 4 _ S2.out.2.1 (by omega) (by decide) (by decide)).mono ?_
      rintro e w3 ⟨n1, n1a, n1b, rfl, r3, g3, -⟩
      have S5 := Lib.hid (S2.out.on g3 r3)
      have T5 := Lib.hid (TH.out.grew hrw g3)
      clear r3 g3 c0
      obtain ⟨n, rfl⟩ : ∃ n : Nat, n1 = n := ⟨n1.toNat, by omega⟩
      go_wp2
      go_loopw [9] (fun i wr => ∃ (k : Nat) (l : List Int) (q' : Sl) (pp : Nat), i = .int .i64 k ∧ k + l.length ≤ 3 ∧ pp + k ≤ p1 + 6 ∧ St w r a len cap zs pp [(y.heap.size, 37, ({ x with queue := l } : T8).cs s q'), (w.heap.size, 37, #[.int .i64 0, .int .i64 0, .int .i64 0, .int .i64 0, .int .i64 0, .slice none 0 0, .slice none 0 0, .int .i64 0])] wr ∧ ThO w.heap.size wr ({ x with queue := l } : T8) s q') (fun i _ => (intOf i).toNat)
      case atStart => exact ⟨n, [], q, p1 + 1, rfl, by simp; omega, by omega, by have := S5.out; rw [show x = ({ x with queue := [] } : T8) by rw [← HQE.out]] at this; exact this, by have := T5.out; rw [show x = ({ x with queue := [] } : T8) by rw [← HQE.out]] at this; exact this⟩
      case round =>
        obtain ⟨k, l, q', pp, rfl, hkl, hpp, sK, tK⟩ := hrel
        have SK := Lib.hid sK
        have TK := Lib.hid tK
        clear sK tK
        by_cases hlt : 0 < k
        · have hlt' : (0 : Int) < (k : Int) := by omega
          have c6 := SK.out.1.c (b := y.heap.size) (T := 37) (vs := ({ x with queue := l } : T8).cs s q') (by simp) 6 _ rfl
          have hbl := (SK.out.1.box (b := y.heap.size) (T := 37) (vs := ({ x with queue := l } : T8).cs s q') (by simp)).lt
          go_wp2_with fail
          go_region_law (first | (go_simp; go_at_call 54; refine (pick_any _ a _ cap zs pp 20 _ SK.out.drew.2.1 (by omega) (by decide) (by decide)).mono ?_; rintro e w4 ⟨z, za, zb, rfl, r4, g4, -⟩; have S8 := Lib.hid (SK.out.drew.on g4 r4); have T8' := Lib.hid ((TK.out.stay (Below.refl _ _).drew).grew hrw g4); have c6' := S8.out.1.c (b := y.heap.size) (T := 37) (vs := ({ x with queue := l } : T8).cs s q') (by simp) 6 _ rfl; have hbl' := (S8.out.1.box (b := y.heap.size) (T := 37) (vs := ({ x with queue := l } : T8).cs s q') (by simp)).lt; clear r4 g4; obtain ⟨g, c, w5, hap, th5, kp5, bl5, sz5⟩ := append_q w.heap.size w4 _ s q' T8'.out (by simp; omega) S8.out.1.1.size z 35; have bx5 := kp5 _ _ _ (by decide) (S8.out.1.box (b := y.heap.size) (T := 37) (vs := ({ x with queue := l } : T8).cs s q') (by simp)); have br5 := kp5 _ _ _ (by decide) (S8.out.1.box (b := w.heap.size) (T := 37) (vs := #[.int .i64 0, .int .i64 0, .int .i64 0, .int .i64 0, .int .i64 0, .slice none 0 0, .slice none 0 0, .int .i64 0]) (by simp)); have d6 := bx5.cell 6 _ rfl; have f6 := bx5.thaw 6; have BX5 := Lib.hid bx5; have BR5 := Lib.hid br5; have TH5 := Lib.hid th5; have BL5 := Lib.hid bl5; clear bx5 br5 th5 bl5 kp5) | (refine step_append_run rfl (.tmp 46) (.tmp 49) 35 rfl (.slice q'.a q'.n q'.c) (.slice (some ⟨w4.heap.size, 0, none⟩) 1 1) (by simp [Act.eval]) (by simp [Act.eval]) (.slice (some ⟨g, 0, none⟩) (q'.n + 1) c) w5 hap ?_))
          all_goals
            go_wp2
            go_roundw
            case rel =>
              have S9 : St w r a len cap zs (pp + 1) [(y.heap.size, 37, ({ x with queue := l } : T8).cs s q'), (w.heap.size, 37, #[.int .i64 0, .int .i64 0, .int .i64 0, .int .i64 0, .int .i64 0, .slice none 0 0, .slice none 0 0, .int .i64 0])] w5 := by
                refine ⟨⟨⟨BL5.out.os.trans S8.out.1.1.os, BL5.out.tape.trans S8.out.1.1.tape, BL5.out.output.trans S8.out.1.1.output, Nat.le_trans S8.out.1.1.size sz5, fun k hk hkr => (BL5.out.block k hk).trans (S8.out.1.1.block k hk hkr)⟩, fun t ht => ?_⟩, S8.out.2.1.keepB hrw S8.out.2.2.2 BL5.out, S8.out.2.2⟩
                simp at ht
                rcases ht with rfl | rfl
                · exact ⟨BX5.out, (S8.out.1.2 _ (by simp)).2⟩
                · exact ⟨BR5.out, (S8.out.1.2 ((w.heap.size, 37, #[.int .i64 0, .int .i64 0, .int .i64 0, .int .i64 0, .int .i64 0, .slice none 0 0, .slice none 0 0, .int .i64 0])) (by simp)).2⟩
              have S10 := S9.put (by simp; omega) 6 (.slice (some ⟨g, 0, none⟩) (q'.n + 1) c)
              rw [putQ _ _ _ (l ++ [z])] at S10
              refine ⟨k - 1, l ++ [z], ⟨some ⟨g, 0, none⟩, q'.n + 1, c⟩, pp + 1, ?_, by simp; omega, by omega, S10, TH5.out.put BX5.out _⟩
              first | rfl | (simp; omega) | (go_num; omega)
            case measure => simp [intOf]; omega
        · have hlt' : ¬ (0 : Int) < (k : Int) := by omega
          have bX := SK.out.1.box (b := y.heap.size) (T := 37) (vs := ({ x with queue := l } : T8).cs s q') (by simp)
          have bR := SK.out.1.box (b := w.heap.size) (T := 37) (vs := #[.int .i64 0, .int .i64 0, .int .i64 0, .int .i64 0, .int .i64 0, .slice none 0 0, .slice none 0 0, .int .i64 0]) (by simp)
          go_wp2_with (first
            | refine wpList_load_row rfl 37 (.tmp 7) rfl y.heap.size rfl 37 (({ x with queue := l } : T8).cs s q') (0, 0) _ bX Tryd.underlying37 rfl infoT ?_
            | refine wpList_store_rowTo rfl 37 (.tmp 6) (.tmp 58) rfl rfl w.heap.size (({ x with queue := l } : T8).cs s q') rfl rfl 37 #[.int .i64 0, .int .i64 0, .int .i64 0, .int .i64 0, .int .i64 0, .slice none 0 0, .slice none 0 0, .int .i64 0] bR infoT rfl (one8 ({ x with queue := l } : T8) s q') ?_)
          have hfin := (SK.out.less (L' := [(w.heap.size, 37, #[.int .i64 0, .int .i64 0, .int .i64 0, .int .i64 0, .int .i64 0, .slice none 0 0, .slice none 0 0, .int .i64 0])]) (by simp)).row (by simp) (({ x with queue := l } : T8).cs s q')
          refine bodyPost_ret (results_row Tryd.results95 _ _ w.heap.size 37 (({ x with queue := l } : T8).cs s q') _ rfl (setRow_box bR _) Tryd.underlying37 rfl infoT) rfl ⟨({ x with queue := l } : T8), s, q', rfl, TK.out.row bR _, ?_, ?_, ?_, _, ?_, hfin.2.1, hfin.1.1⟩
          · show l.length ≤ 3
            omega
          · simp [HKK.out]
          · simp [HKK.out]
          · omega
    · rw [hk] at c0
      have HKK := Lib.hid hk
      clear hk
      have bX := S2.out.1.box (b := y.heap.size) (T := 37) (vs := x.cs s q) (by simp)
      have bR := S2.out.1.box (b := w.heap.size) (T := 37) (vs := #[.int .i64 0, .int .i64 0, .int .i64 0, .int .i64 0, .int .i64 0, .slice none 0 0, .slice none 0 0, .int .i64 0]) (by simp)
      go_wp2_with (first
        | refine wpList_load_row rfl 37 (.tmp 7) rfl y.heap.size rfl 37 (x.cs s q) (0, 0) _ bX Tryd.underlying37 rfl infoT ?_
        | refine wpList_store_rowTo rfl 37 (.tmp 6) (.tmp 58) rfl rfl w.heap.size (x.cs s q) rfl rfl 37 #[.int .i64 0, .int .i64 0, .int .i64 0, .int .i64 0, .int .i64 0, .slice none 0 0, .slice none 0 0, .int .i64 0] bR infoT rfl (one8 x s q) ?_)
      have hfin := (S2.out.less (L' := [(w.heap.size, 37, #[.int .i64 0, .int .i64 0, .int .i64 0, .int .i64 0, .int .i64 0, .slice none 0 0, .slice none 0 0, .int .i64 0])]) (by simp)).row (by simp) (x.cs s q)
      refine bodyPost_ret (results_row Tryd.results95 _ _ w.heap.size 37 (x.cs s q) _ rfl (setRow_box bR _) Tryd.underlying37 rfl infoT) rfl ⟨x, s, q, rfl, TH.out.row bR _, ?_, ?_, ?_, _, ?_, hfin.2.1, hfin.1.1⟩
      · simp [HQE.out]
      · simp [HKK.out]
      · simp [HKK.out]
      · omega
end Go.Proofs.YtpahahonopiblaaDoor
