/-
  A thing drawn for its form.
-/
import Derived.Test.YtnfalnmidddkjaaDoorThS
import Derived.Test.YtnfalnmidddkjaaDoorDrawTh
namespace Go.Proofs.YtnfalnmidddkjaaDoor
open Go.RowKit
set_option maxRecDepth 100000
set_option linter.unusedVariables false

/-- What a thing drawn for its form leaves. -/
def OneTPost (w : World) (e : Ending) (w' : World) : Prop :=
  ∃ (x : T8) (s q : Sl), e = .returned (x.val s q) ∧ HasR w' s x.slots ∧ HasQ w' q x.queue ∧ x.slots.length ≤ 4 ∧ x.queue.length ≤ 4 ∧ Below w.heap.size w w'

set_option maxHeartbeats 8000000 in
theorem drawTOk_any (a : Option Addr) (len cap : Nat) (zs : List Int) (w : World) (h : IsRow .u8 w a len cap zs) :
    Calls Tryd.prog 20 #[.slice a len cap] w (OneTPost w) := by
  have K0 := (Kn.refl (w := w)).new 30 #[.int .i64 0, .int .i64 0, .int .i64 0, .int .i64 0, .int .i64 0, .slice none 0 0, .slice none 0 0, .int .i64 0]
  have H := Lib.hid (h.below K0.1)
  have HK := Lib.hid K0
  clear h K0
  unfold OneTPost
  go_enter Tryd.func20, Tryd.ntmps20
  go_wp2_with fail
  refine (l6Open_any a len cap zs _ H.out).mono ?_
  rintro e w1' ⟨rfl, rfl⟩
  have hR0 := rd_open H.out
  obtain ⟨w1, hw1⟩ : ∃ w1, (w.alloc (.cells #[.int .i64 0, .int .i64 0, .int .i64 0, .int .i64 0, .int .i64 0, .slice none 0 0, .slice none 0 0, .int .i64 0] 30)).alloc (.cells #[.slice a (min len 2000) cap, .int .i64 0] 102) = w1 := ⟨_, rfl⟩
  have hs1 : (w.alloc (.cells #[.int .i64 0, .int .i64 0, .int .i64 0, .int .i64 0, .int .i64 0, .slice none 0 0, .slice none 0 0, .int .i64 0] 30)).heap.size = w.heap.size + 1 := by simp
  rw [hs1, hw1] at hR0
  have hz1 : w1.heap.size = w.heap.size + 2 := by rw [← hw1]; simp
  have hb1 := (HK.out.past (.cells #[.slice a (min len 2000) cap, .int .i64 0] 102))
  rw [hw1] at hb1
  have HB1 := Lib.hid hb1.1
  have BR0 := Lib.hid (hb1.box (b := w.heap.size) (T := 30) (vs := #[.int .i64 0, .int .i64 0, .int .i64 0, .int .i64 0, .int .i64 0, .slice none 0 0, .slice none 0 0, .int .i64 0]) (by simp))
  have S0 := Lib.hid (St.start hR0)
  clear hR0 hb1
  go_wp2_with fail
  refine (pick_any _ a _ cap zs 0 5 _ S0.out.2.1 (by omega) (by decide) (by decide)).mono ?_
  rintro e w2 ⟨x1, x1a, x1b, rfl, r1, g1, -⟩
  have S1 := Lib.hid (S0.out.on g1 r1)
  clear r1 g1 S0
  have e1 : wrap64 (1 + x1) = 1 + x1 := by unfold wrap64; omega
  go_wp2_with fail
  refine (pick_any _ a _ cap zs 1 3 _ S1.out.2.1 (by omega) (by decide) (by decide)).mono ?_
  rintro e w3 ⟨x2, x2a, x2b, rfl, r1, g1, -⟩
  have S2 := Lib.hid (S1.out.on g1 r1)
  clear r1 g1 S1
  go_wp2_with fail
  refine (l71Thing_any _ a _ cap zs 2 (1 + x1) x2 _ S2.out.2.1 (by omega)).mono ?_
  rintro e y ⟨x, s, q, rfl, th, hql, -, -, p3, hp3, r3, g3⟩
  have hzs2 := S2.out.1.1.size
  have S3 := Lib.hid ((S2.out.on g3 r3).new 30 (x.cs s q))
  have hal : Below y.heap.size y (y.alloc (.cells (x.cs s q) 30)) := (Below.refl _ _).alloc (Nat.le_refl _) _
  have T3 := Lib.hid ((th.less hzs2).stay hal)
  have hBy : w1.heap.size ≤ y.heap.size := Nat.le_trans hzs2 g3.size
  clear th r3 g3 S2 hal
  obtain ⟨Y, hY⟩ : ∃ Y, y.alloc (.cells (x.cs s q) 30) = Y := ⟨_, rfl⟩
  rw [hY] at S3 T3
  go_wp2
  have hloop : ∃ sl : List R5, sl = x.slots := ⟨_, rfl⟩
  go_loopw [5] (fun i wr => ∃ (k : Nat) (sl : List R5) (pp : Nat), k ≤ s.n ∧ i = .int .i64 k ∧ pp ≤ p3 + 10 * k ∧ St w1 (w.heap.size + 1) a (min len 2000) cap zs pp [(y.heap.size, 30, x.cs s q)] wr ∧ ThO w1.heap.size wr { x with slots := sl } s q) (fun i _ => s.n - (intOf i).toNat)
  case atStart => exact ⟨0, x.slots, p3, by omega, rfl, by omega, S3.out, T3.out⟩
  case round =>
    obtain ⟨k, sl, pp, hk, rfl, hpp, sK, tK⟩ := hrel
    have SK := Lib.hid sK
    have TK := Lib.hid tK
    have hsn4 : s.n ≤ 4 := by
      have h1 := tK.hasR'.len
      have h2 := tK.slots_le
      simp only at h1 h2
      omega
    clear sK tK
    have c5 := SK.out.1.c (b := y.heap.size) (T := 30) (vs := x.cs s q) (by simp) 5 _ rfl
    by_cases hlt : k < s.n
    · have hlt' : (k : Int) < (s.n : Int) := by omega
      rcases TK.out.1 with ⟨h0, -⟩ | ⟨b, a1, a2, a3, a4, hb, hse, bx, -⟩
      · omega
      have hk4 : k < 4 := by omega
      obtain ⟨sa, sn, sc⟩ := s
      injection hse with i1 i2 i3
      subst i1 i2 i3
      have BX := Lib.hid bx
      have hbl := bx.lt
      clear bx
      go_wp2_with fail
      go_region_with (go_at_call 55; refine (l71Right_any _ a _ cap zs pp _ SK.out.drew.2.1 (by omega)).mono ?_; rintro e w4 ⟨tt, vv, rd, wt, kk, -, -, -, -, rfl, p4, hp4, r4, g4⟩; have S8 := Lib.hid (SK.out.drew.on g4 r4); have T8' := Lib.hid ((TK.out.stay (Below.refl _ _).drew).grew SK.out.2.2.1 g4); have bx4 := BX.out.drew.grew g4 (by omega); have c5' := S8.out.1.c (b := y.heap.size) (T := 30) (vs := x.cs ⟨some ⟨b, 0, none⟩, 4, 4⟩ q) (by simp) 5 _ rfl; have hA := (four_has bx4).at (i := k) (by simp; omega); obtain ⟨bb, oo, eb, hAt⟩ := hA; simp only [Option.some.injEq, Addr.mk.injEq] at eb; obtain ⟨rfl, rfl, -⟩ := eb; have m0 := hAt 0 _ rfl; have m1 := hAt 1 _ rfl; have m2 := hAt 2 _ rfl; have m3 := hAt 3 _ rfl; have m4 := hAt 4 _ rfl; simp only [Nat.zero_add, Nat.add_zero] at m0 m1 m2 m3 m4; have f0 := bx4.thaw (k * 5); have f1 := bx4.thaw (k * 5 + 1); have f2 := bx4.thaw (k * 5 + 2); have f3 := bx4.thaw (k * 5 + 3); have f4 := bx4.thaw (k * 5 + 4); have BX4 := Lib.hid bx4; have hbl4 := bx4.lt; clear r4 g4 hAt bx4)
      all_goals
        go_wp2
        go_roundw
        case rel =>
          obtain ⟨sl2, -, th2⟩ := T8'.out.set5 BX4.out k hk4 ⟨tt, vv, rd, wt, kk⟩
          exact ⟨k + 1, sl2, p4, by omega, by go_num, by omega, S8.out.set5 hb (by simp; intro h; exact Box.ne (S8.out.1.box (b := y.heap.size) (T := 30) (vs := x.cs ⟨some ⟨b, 0, none⟩, 4, 4⟩ q) (by simp)) BX4.out (by decide) h) ⟨tt, vv, rd, wt, kk⟩, th2⟩
        case measure => simp [intOf]; omega
    · have hlt' : ¬ (k : Int) < (s.n : Int) := by omega
      clear hlt
      have hpk : pp ≤ p3 + 40 := by omega
      clear hk hpp
      go_wp2_with fail
      clear hlt' c5
      refine (pick_any _ a _ cap zs pp 10 _ SK.out.2.1 (by omega) (by decide) (by decide)).mono ?_
      rintro e w5 ⟨n1, n1a, n1b, rfl, r5, g5, -⟩
      have S5 := Lib.hid (SK.out.on g5 r5)
      have T5 := Lib.hid (TK.out.grew SK.out.2.2.1 g5)
      have HQL := hql
      clear r5 g5 SK TK
      by_cases h0 : n1 = 0
      · subst h0
        have S5b := Lib.hid (S5.out.new 3 #[.int .i64 (-5), .int .i64 (-1), .int .i64 99, .int .i64 100])
        have T5b := Lib.hid (T5.out.stay ((Below.refl _ w5).alloc (Nat.le_refl _) (.cells #[.int .i64 (-5), .int .i64 (-1), .int .i64 99, .int .i64 100] 3)))
        go_wp2_with fail
        refine (pick_any _ a _ cap zs (pp + 1) 4 _ S5b.out.2.1 (by omega) (by decide) (by decide)).mono ?_
        rintro e w6 ⟨n2, n2a, n2b, rfl, r6, g6, -⟩
        have S6 := Lib.hid (S5b.out.on g6 r6)
        have T6 := Lib.hid (T5b.out.grew S5b.out.2.2.1 g6)
        have hcase : n2 = 0 ∨ n2 = 1 ∨ n2 = 2 ∨ n2 = 3 := by omega
        clear r6 g6
        have i0 := S6.out.1.c (b := w5.heap.size) (T := 3) (vs := #[.int .i64 (-5), .int .i64 (-1), .int .i64 99, .int .i64 100]) (by simp) 0 _ rfl
        have i1 := S6.out.1.c (b := w5.heap.size) (T := 3) (vs := #[.int .i64 (-5), .int .i64 (-1), .int .i64 99, .int .i64 100]) (by simp) 1 _ rfl
        have i2 := S6.out.1.c (b := w5.heap.size) (T := 3) (vs := #[.int .i64 (-5), .int .i64 (-1), .int .i64 99, .int .i64 100]) (by simp) 2 _ rfl
        have i3 := S6.out.1.c (b := w5.heap.size) (T := 3) (vs := #[.int .i64 (-5), .int .i64 (-1), .int .i64 99, .int .i64 100]) (by simp) 3 _ rfl
        have S6b := Lib.hid (S6.out.less (L' := [(y.heap.size, 30, x.cs s q)]) (by simp))
        rcases hcase with rfl | rfl | rfl | rfl
        · have g4 := S6b.out.1.c (b := y.heap.size) (T := 30) (vs := x.cs s q) (by simp) 4 _ rfl
          have fz4 := S6b.out.1.f (b := y.heap.size) (T := 30) (vs := x.cs s q) (by simp) 4
          have S9 := S6b.out.put (by simp) 4 (.int .i64 (-5))
          rw [putNum] at S9
          have T9 := Lib.hid ((T6.out.put (S6b.out.1.box (b := y.heap.size) (T := 30) (vs := x.cs s q) (by simp)) (i := 4) (.int .i64 (-5))).as (y := ({ x with slots := sl, num := -5 } : T8)) rfl rfl)
          have H9 := Lib.hid S9
          clear S9
          have bX := H9.out.1.box (b := y.heap.size) (T := 30) (vs := ({ x with slots := sl, num := -5 } : T8).cs s q) (by simp)
          have bR := BR0.out.grew H9.out.1.1 (by omega)
          go_wp2_with (first
            | refine wpList_load_row rfl 30 (.tmp 4) rfl y.heap.size rfl 30 (({ x with slots := sl, num := -5 } : T8).cs s q) (0, 0) _ bX Tryd.underlying30 rfl infoT ?_
            | refine wpList_store_rowTo rfl 30 (.tmp 2) (.tmp 60) rfl rfl w.heap.size (({ x with slots := sl, num := -5 } : T8).cs s q) rfl rfl 30 #[.int .i64 0, .int .i64 0, .int .i64 0, .int .i64 0, .int .i64 0, .slice none 0 0, .slice none 0 0, .int .i64 0] bR infoT rfl (one8 ({ x with slots := sl, num := -5 } : T8) s q) ?_)
          have tfin := T9.out.row bR (({ x with slots := sl, num := -5 } : T8).cs s q)
          refine bodyPost_ret (results_row Tryd.results20 _ _ w.heap.size 30 (({ x with slots := sl, num := -5 } : T8).cs s q) _ rfl (setRow_box bR _) Tryd.underlying30 rfl infoT) rfl ⟨({ x with slots := sl, num := -5 } : T8), s, q, rfl, tfin.hasR', tfin.hasQ, tfin.slots_le, ?_, ?_⟩
          · simp at HQL ⊢
            omega
          · exact (HB1.out.trans (H9.out.1.1.below (by omega) (by omega))).trans (setRow_below (Nat.le_refl _) _)
        · have g4 := S6b.out.1.c (b := y.heap.size) (T := 30) (vs := x.cs s q) (by simp) 4 _ rfl
          have fz4 := S6b.out.1.f (b := y.heap.size) (T := 30) (vs := x.cs s q) (by simp) 4
          have S9 := S6b.out.put (by simp) 4 (.int .i64 (-1))
          rw [putNum] at S9
          have T9 := Lib.hid ((T6.out.put (S6b.out.1.box (b := y.heap.size) (T := 30) (vs := x.cs s q) (by simp)) (i := 4) (.int .i64 (-1))).as (y := ({ x with slots := sl, num := -1 } : T8)) rfl rfl)
          have H9 := Lib.hid S9
          clear S9
          have bX := H9.out.1.box (b := y.heap.size) (T := 30) (vs := ({ x with slots := sl, num := -1 } : T8).cs s q) (by simp)
          have bR := BR0.out.grew H9.out.1.1 (by omega)
          go_wp2_with (first
            | refine wpList_load_row rfl 30 (.tmp 4) rfl y.heap.size rfl 30 (({ x with slots := sl, num := -1 } : T8).cs s q) (0, 0) _ bX Tryd.underlying30 rfl infoT ?_
            | refine wpList_store_rowTo rfl 30 (.tmp 2) (.tmp 60) rfl rfl w.heap.size (({ x with slots := sl, num := -1 } : T8).cs s q) rfl rfl 30 #[.int .i64 0, .int .i64 0, .int .i64 0, .int .i64 0, .int .i64 0, .slice none 0 0, .slice none 0 0, .int .i64 0] bR infoT rfl (one8 ({ x with slots := sl, num := -1 } : T8) s q) ?_)
          have tfin := T9.out.row bR (({ x with slots := sl, num := -1 } : T8).cs s q)
          refine bodyPost_ret (results_row Tryd.results20 _ _ w.heap.size 30 (({ x with slots := sl, num := -1 } : T8).cs s q) _ rfl (setRow_box bR _) Tryd.underlying30 rfl infoT) rfl ⟨({ x with slots := sl, num := -1 } : T8), s, q, rfl, tfin.hasR', tfin.hasQ, tfin.slots_le, ?_, ?_⟩
          · simp at HQL ⊢
            omega
          · exact (HB1.out.trans (H9.out.1.1.below (by omega) (by omega))).trans (setRow_below (Nat.le_refl _) _)
        · have g4 := S6b.out.1.c (b := y.heap.size) (T := 30) (vs := x.cs s q) (by simp) 4 _ rfl
          have fz4 := S6b.out.1.f (b := y.heap.size) (T := 30) (vs := x.cs s q) (by simp) 4
          have S9 := S6b.out.put (by simp) 4 (.int .i64 (99))
          rw [putNum] at S9
          have T9 := Lib.hid ((T6.out.put (S6b.out.1.box (b := y.heap.size) (T := 30) (vs := x.cs s q) (by simp)) (i := 4) (.int .i64 (99))).as (y := ({ x with slots := sl, num := 99 } : T8)) rfl rfl)
          have H9 := Lib.hid S9
          clear S9
          have bX := H9.out.1.box (b := y.heap.size) (T := 30) (vs := ({ x with slots := sl, num := 99 } : T8).cs s q) (by simp)
          have bR := BR0.out.grew H9.out.1.1 (by omega)
          go_wp2_with (first
            | refine wpList_load_row rfl 30 (.tmp 4) rfl y.heap.size rfl 30 (({ x with slots := sl, num := 99 } : T8).cs s q) (0, 0) _ bX Tryd.underlying30 rfl infoT ?_
            | refine wpList_store_rowTo rfl 30 (.tmp 2) (.tmp 60) rfl rfl w.heap.size (({ x with slots := sl, num := 99 } : T8).cs s q) rfl rfl 30 #[.int .i64 0, .int .i64 0, .int .i64 0, .int .i64 0, .int .i64 0, .slice none 0 0, .slice none 0 0, .int .i64 0] bR infoT rfl (one8 ({ x with slots := sl, num := 99 } : T8) s q) ?_)
          have tfin := T9.out.row bR (({ x with slots := sl, num := 99 } : T8).cs s q)
          refine bodyPost_ret (results_row Tryd.results20 _ _ w.heap.size 30 (({ x with slots := sl, num := 99 } : T8).cs s q) _ rfl (setRow_box bR _) Tryd.underlying30 rfl infoT) rfl ⟨({ x with slots := sl, num := 99 } : T8), s, q, rfl, tfin.hasR', tfin.hasQ, tfin.slots_le, ?_, ?_⟩
          · simp at HQL ⊢
            omega
          · exact (HB1.out.trans (H9.out.1.1.below (by omega) (by omega))).trans (setRow_below (Nat.le_refl _) _)
        · have g4 := S6b.out.1.c (b := y.heap.size) (T := 30) (vs := x.cs s q) (by simp) 4 _ rfl
          have fz4 := S6b.out.1.f (b := y.heap.size) (T := 30) (vs := x.cs s q) (by simp) 4
          have S9 := S6b.out.put (by simp) 4 (.int .i64 (100))
          rw [putNum] at S9
          have T9 := Lib.hid ((T6.out.put (S6b.out.1.box (b := y.heap.size) (T := 30) (vs := x.cs s q) (by simp)) (i := 4) (.int .i64 (100))).as (y := ({ x with slots := sl, num := 100 } : T8)) rfl rfl)
          have H9 := Lib.hid S9
          clear S9
          have bX := H9.out.1.box (b := y.heap.size) (T := 30) (vs := ({ x with slots := sl, num := 100 } : T8).cs s q) (by simp)
          have bR := BR0.out.grew H9.out.1.1 (by omega)
          go_wp2_with (first
            | refine wpList_load_row rfl 30 (.tmp 4) rfl y.heap.size rfl 30 (({ x with slots := sl, num := 100 } : T8).cs s q) (0, 0) _ bX Tryd.underlying30 rfl infoT ?_
            | refine wpList_store_rowTo rfl 30 (.tmp 2) (.tmp 60) rfl rfl w.heap.size (({ x with slots := sl, num := 100 } : T8).cs s q) rfl rfl 30 #[.int .i64 0, .int .i64 0, .int .i64 0, .int .i64 0, .int .i64 0, .slice none 0 0, .slice none 0 0, .int .i64 0] bR infoT rfl (one8 ({ x with slots := sl, num := 100 } : T8) s q) ?_)
          have tfin := T9.out.row bR (({ x with slots := sl, num := 100 } : T8).cs s q)
          refine bodyPost_ret (results_row Tryd.results20 _ _ w.heap.size 30 (({ x with slots := sl, num := 100 } : T8).cs s q) _ rfl (setRow_box bR _) Tryd.underlying30 rfl infoT) rfl ⟨({ x with slots := sl, num := 100 } : T8), s, q, rfl, tfin.hasR', tfin.hasQ, tfin.slots_le, ?_, ?_⟩
          · simp at HQL ⊢
            omega
          · exact (HB1.out.trans (H9.out.1.1.below (by omega) (by omega))).trans (setRow_below (Nat.le_refl _) _)
      have h0' : (n1 == 0) = false := by simpa using h0
      clear h0
      by_cases h1 : n1 = 1
      · subst h1
        go_wp2_with fail
        refine (pick_any _ a _ cap zs (pp + 1) 7 _ S5.out.2.1 (by omega) (by decide) (by decide)).mono ?_
        rintro e w6 ⟨n2, n2a, n2b, rfl, r6, g6, -⟩
        have S6 := Lib.hid (S5.out.on g6 r6)
        have T6 := Lib.hid (T5.out.grew S5.out.2.2.1 g6)
        clear r6 g6
        have g0 := S6.out.1.c (b := y.heap.size) (T := 30) (vs := x.cs s q) (by simp) 0 _ rfl
        have fz0 := S6.out.1.f (b := y.heap.size) (T := 30) (vs := x.cs s q) (by simp) 0
        have S9 := S6.out.put (by simp) 0 (.int .i64 n2)
        rw [putKind] at S9
        have T9 := Lib.hid ((T6.out.put (S6.out.1.box (b := y.heap.size) (T := 30) (vs := x.cs s q) (by simp)) (i := 0) (.int .i64 n2)).as (y := ({ x with slots := sl, kind := n2 } : T8)) rfl rfl)
        have H9 := Lib.hid S9
        clear S9
        have bX := H9.out.1.box (b := y.heap.size) (T := 30) (vs := ({ x with slots := sl, kind := n2 } : T8).cs s q) (by simp)
        have bR := BR0.out.grew H9.out.1.1 (by omega)
        go_wp2_with (first
          | refine wpList_load_row rfl 30 (.tmp 4) rfl y.heap.size rfl 30 (({ x with slots := sl, kind := n2 } : T8).cs s q) (0, 0) _ bX Tryd.underlying30 rfl infoT ?_
          | refine wpList_store_rowTo rfl 30 (.tmp 2) (.tmp 60) rfl rfl w.heap.size (({ x with slots := sl, kind := n2 } : T8).cs s q) rfl rfl 30 #[.int .i64 0, .int .i64 0, .int .i64 0, .int .i64 0, .int .i64 0, .slice none 0 0, .slice none 0 0, .int .i64 0] bR infoT rfl (one8 ({ x with slots := sl, kind := n2 } : T8) s q) ?_)
        have tfin := T9.out.row bR (({ x with slots := sl, kind := n2 } : T8).cs s q)
        refine bodyPost_ret (results_row Tryd.results20 _ _ w.heap.size 30 (({ x with slots := sl, kind := n2 } : T8).cs s q) _ rfl (setRow_box bR _) Tryd.underlying30 rfl infoT) rfl ⟨({ x with slots := sl, kind := n2 } : T8), s, q, rfl, tfin.hasR', tfin.hasQ, tfin.slots_le, ?_, ?_⟩
        · simp at HQL ⊢
          omega
        · exact (HB1.out.trans (H9.out.1.1.below (by omega) (by omega))).trans (setRow_below (Nat.le_refl _) _)
      have h1' : (n1 == 1) = false := by simpa using h1
      clear h1
      by_cases h2 : n1 = 2
      · subst h2
        have c6 := S5.out.1.c (b := y.heap.size) (T := 30) (vs := x.cs s q) (by simp) 6 _ rfl
        have hbl := (S5.out.1.box (b := y.heap.size) (T := 30) (vs := x.cs s q) (by simp)).lt
        go_wp2_with fail
        go_region_law (first | (go_simp; go_at_call 45; refine (pick_any _ a _ cap zs (pp + 1) 3 _ S5.out.drew.2.1 (by omega) (by decide) (by decide)).mono ?_; rintro e w4 ⟨z, za, zb, rfl, r4, g4, -⟩; have S8 := Lib.hid (S5.out.drew.on g4 r4); have T8' := Lib.hid ((T5.out.stay (Below.refl _ _).drew).grew S5.out.2.2.1 g4); have c6' := S8.out.1.c (b := y.heap.size) (T := 30) (vs := x.cs s q) (by simp) 6 _ rfl; have hbl' := (S8.out.1.box (b := y.heap.size) (T := 30) (vs := x.cs s q) (by simp)).lt; clear r4 g4; obtain ⟨g, c, w5', hap, th5, kp5, bl5, sz5⟩ := append_q w1.heap.size w4 _ s q T8'.out (by simp; omega) S8.out.1.1.size z 28; have bx5 := kp5 _ _ _ (by decide) (S8.out.1.box (b := y.heap.size) (T := 30) (vs := x.cs s q) (by simp)); have d6 := bx5.cell 6 _ rfl; have f6 := bx5.thaw 6; have BX5 := Lib.hid bx5; have TH5 := Lib.hid th5; have BL5 := Lib.hid bl5; clear bx5 th5 bl5 kp5) | (refine step_append_run rfl (.tmp 46) (.tmp 49) 28 rfl (.slice q.a q.n q.c) (.slice (some ⟨w4.heap.size, 0, none⟩) 1 1) (by simp [Act.eval]) (by simp [Act.eval]) (.slice (some ⟨g, 0, none⟩) (q.n + 1) c) w5' hap ?_))
        all_goals
          have S9 := S8.out.own BL5.out (by simp; exact BX5.out)
          have S10 := S9.put (by simp) 6 (.slice (some ⟨g, 0, none⟩) (q.n + 1) c)
          rw [putQ _ _ _ (x.queue ++ [z])] at S10
          have H9 := Lib.hid S10
          have T9 := Lib.hid (TH5.out.put BX5.out (i := 6) (.slice (some ⟨g, 0, none⟩) (q.n + 1) c))
          clear S9 S10
          have bX := H9.out.1.box (b := y.heap.size) (T := 30) (vs := ({ x with slots := sl, queue := x.queue ++ [z] } : T8).cs s ⟨some ⟨g, 0, none⟩, q.n + 1, c⟩) (by simp)
          have bR := BR0.out.grew H9.out.1.1 (by omega)
          go_wp2_with (first
            | refine wpList_load_row rfl 30 (.tmp 4) rfl y.heap.size rfl 30 (({ x with slots := sl, queue := x.queue ++ [z] } : T8).cs s ⟨some ⟨g, 0, none⟩, q.n + 1, c⟩) (0, 0) _ bX Tryd.underlying30 rfl infoT ?_
            | refine wpList_store_rowTo rfl 30 (.tmp 2) (.tmp 60) rfl rfl w.heap.size (({ x with slots := sl, queue := x.queue ++ [z] } : T8).cs s ⟨some ⟨g, 0, none⟩, q.n + 1, c⟩) rfl rfl 30 #[.int .i64 0, .int .i64 0, .int .i64 0, .int .i64 0, .int .i64 0, .slice none 0 0, .slice none 0 0, .int .i64 0] bR infoT rfl (one8 ({ x with slots := sl, queue := x.queue ++ [z] } : T8) s ⟨some ⟨g, 0, none⟩, q.n + 1, c⟩) ?_)
          have tfin := T9.out.row bR (({ x with slots := sl, queue := x.queue ++ [z] } : T8).cs s ⟨some ⟨g, 0, none⟩, q.n + 1, c⟩)
          refine bodyPost_ret (results_row Tryd.results20 _ _ w.heap.size 30 (({ x with slots := sl, queue := x.queue ++ [z] } : T8).cs s ⟨some ⟨g, 0, none⟩, q.n + 1, c⟩) _ rfl (setRow_box bR _) Tryd.underlying30 rfl infoT) rfl ⟨({ x with slots := sl, queue := x.queue ++ [z] } : T8), s, ⟨some ⟨g, 0, none⟩, q.n + 1, c⟩, rfl, tfin.hasR', tfin.hasQ, tfin.slots_le, ?_, ?_⟩
          · simp at HQL ⊢
            omega
          · exact (HB1.out.trans (H9.out.1.1.below (by omega) (by omega))).trans (setRow_below (Nat.le_refl _) _)
      have h2' : (n1 == 2) = false := by simpa using h2
      clear h2
      by_cases h3 : n1 = 3
      · subst h3
        have S5b := Lib.hid (S5.out.new 3 #[.int .i64 1, .int .i64 5, .int .i64 6])
        have T5b := Lib.hid (T5.out.stay ((Below.refl _ w5).alloc (Nat.le_refl _) (.cells #[.int .i64 1, .int .i64 5, .int .i64 6] 3)))
        go_wp2_with fail
        refine (pick_any _ a _ cap zs (pp + 1) 3 _ S5b.out.2.1 (by omega) (by decide) (by decide)).mono ?_
        rintro e w6 ⟨n2, n2a, n2b, rfl, r6, g6, -⟩
        have S6 := Lib.hid (S5b.out.on g6 r6)
        have T6 := Lib.hid (T5b.out.grew S5b.out.2.2.1 g6)
        have hcase : n2 = 0 ∨ n2 = 1 ∨ n2 = 2 := by omega
        clear r6 g6
        have i0 := S6.out.1.c (b := w5.heap.size) (T := 3) (vs := #[.int .i64 1, .int .i64 5, .int .i64 6]) (by simp) 0 _ rfl
        have i1 := S6.out.1.c (b := w5.heap.size) (T := 3) (vs := #[.int .i64 1, .int .i64 5, .int .i64 6]) (by simp) 1 _ rfl
        have i2 := S6.out.1.c (b := w5.heap.size) (T := 3) (vs := #[.int .i64 1, .int .i64 5, .int .i64 6]) (by simp) 2 _ rfl
        have S6b := Lib.hid (S6.out.less (L' := [(y.heap.size, 30, x.cs s q)]) (by simp))
        rcases hcase with rfl | rfl | rfl
        · have g3 := S6b.out.1.c (b := y.heap.size) (T := 30) (vs := x.cs s q) (by simp) 3 _ rfl
          have fz3 := S6b.out.1.f (b := y.heap.size) (T := 30) (vs := x.cs s q) (by simp) 3
          have S9 := S6b.out.put (by simp) 3 (.int .i64 1)
          rw [putVers] at S9
          have T9 := Lib.hid ((T6.out.put (S6b.out.1.box (b := y.heap.size) (T := 30) (vs := x.cs s q) (by simp)) (i := 3) (.int .i64 1)).as (y := ({ x with slots := sl, vers := 1 } : T8)) rfl rfl)
          have H9 := Lib.hid S9
          clear S9
          have bX := H9.out.1.box (b := y.heap.size) (T := 30) (vs := ({ x with slots := sl, vers := 1 } : T8).cs s q) (by simp)
          have bR := BR0.out.grew H9.out.1.1 (by omega)
          go_wp2_with (first
            | refine wpList_load_row rfl 30 (.tmp 4) rfl y.heap.size rfl 30 (({ x with slots := sl, vers := 1 } : T8).cs s q) (0, 0) _ bX Tryd.underlying30 rfl infoT ?_
            | refine wpList_store_rowTo rfl 30 (.tmp 2) (.tmp 60) rfl rfl w.heap.size (({ x with slots := sl, vers := 1 } : T8).cs s q) rfl rfl 30 #[.int .i64 0, .int .i64 0, .int .i64 0, .int .i64 0, .int .i64 0, .slice none 0 0, .slice none 0 0, .int .i64 0] bR infoT rfl (one8 ({ x with slots := sl, vers := 1 } : T8) s q) ?_)
          have tfin := T9.out.row bR (({ x with slots := sl, vers := 1 } : T8).cs s q)
          refine bodyPost_ret (results_row Tryd.results20 _ _ w.heap.size 30 (({ x with slots := sl, vers := 1 } : T8).cs s q) _ rfl (setRow_box bR _) Tryd.underlying30 rfl infoT) rfl ⟨({ x with slots := sl, vers := 1 } : T8), s, q, rfl, tfin.hasR', tfin.hasQ, tfin.slots_le, ?_, ?_⟩
          · simp at HQL ⊢
            omega
          · exact (HB1.out.trans (H9.out.1.1.below (by omega) (by omega))).trans (setRow_below (Nat.le_refl _) _)
        · have g3 := S6b.out.1.c (b := y.heap.size) (T := 30) (vs := x.cs s q) (by simp) 3 _ rfl
          have fz3 := S6b.out.1.f (b := y.heap.size) (T := 30) (vs := x.cs s q) (by simp) 3
          have S9 := S6b.out.put (by simp) 3 (.int .i64 5)
          rw [putVers] at S9
          have T9 := Lib.hid ((T6.out.put (S6b.out.1.box (b := y.heap.size) (T := 30) (vs := x.cs s q) (by simp)) (i := 3) (.int .i64 5)).as (y := ({ x with slots := sl, vers := 5 } : T8)) rfl rfl)
          have H9 := Lib.hid S9
          clear S9
          have bX := H9.out.1.box (b := y.heap.size) (T := 30) (vs := ({ x with slots := sl, vers := 5 } : T8).cs s q) (by simp)
          have bR := BR0.out.grew H9.out.1.1 (by omega)
          go_wp2_with (first
            | refine wpList_load_row rfl 30 (.tmp 4) rfl y.heap.size rfl 30 (({ x with slots := sl, vers := 5 } : T8).cs s q) (0, 0) _ bX Tryd.underlying30 rfl infoT ?_
            | refine wpList_store_rowTo rfl 30 (.tmp 2) (.tmp 60) rfl rfl w.heap.size (({ x with slots := sl, vers := 5 } : T8).cs s q) rfl rfl 30 #[.int .i64 0, .int .i64 0, .int .i64 0, .int .i64 0, .int .i64 0, .slice none 0 0, .slice none 0 0, .int .i64 0] bR infoT rfl (one8 ({ x with slots := sl, vers := 5 } : T8) s q) ?_)
          have tfin := T9.out.row bR (({ x with slots := sl, vers := 5 } : T8).cs s q)
          refine bodyPost_ret (results_row Tryd.results20 _ _ w.heap.size 30 (({ x with slots := sl, vers := 5 } : T8).cs s q) _ rfl (setRow_box bR _) Tryd.underlying30 rfl infoT) rfl ⟨({ x with slots := sl, vers := 5 } : T8), s, q, rfl, tfin.hasR', tfin.hasQ, tfin.slots_le, ?_, ?_⟩
          · simp at HQL ⊢
            omega
          · exact (HB1.out.trans (H9.out.1.1.below (by omega) (by omega))).trans (setRow_below (Nat.le_refl _) _)
        · have g3 := S6b.out.1.c (b := y.heap.size) (T := 30) (vs := x.cs s q) (by simp) 3 _ rfl
          have fz3 := S6b.out.1.f (b := y.heap.size) (T := 30) (vs := x.cs s q) (by simp) 3
          have S9 := S6b.out.put (by simp) 3 (.int .i64 6)
          rw [putVers] at S9
          have T9 := Lib.hid ((T6.out.put (S6b.out.1.box (b := y.heap.size) (T := 30) (vs := x.cs s q) (by simp)) (i := 3) (.int .i64 6)).as (y := ({ x with slots := sl, vers := 6 } : T8)) rfl rfl)
          have H9 := Lib.hid S9
          clear S9
          have bX := H9.out.1.box (b := y.heap.size) (T := 30) (vs := ({ x with slots := sl, vers := 6 } : T8).cs s q) (by simp)
          have bR := BR0.out.grew H9.out.1.1 (by omega)
          go_wp2_with (first
            | refine wpList_load_row rfl 30 (.tmp 4) rfl y.heap.size rfl 30 (({ x with slots := sl, vers := 6 } : T8).cs s q) (0, 0) _ bX Tryd.underlying30 rfl infoT ?_
            | refine wpList_store_rowTo rfl 30 (.tmp 2) (.tmp 60) rfl rfl w.heap.size (({ x with slots := sl, vers := 6 } : T8).cs s q) rfl rfl 30 #[.int .i64 0, .int .i64 0, .int .i64 0, .int .i64 0, .int .i64 0, .slice none 0 0, .slice none 0 0, .int .i64 0] bR infoT rfl (one8 ({ x with slots := sl, vers := 6 } : T8) s q) ?_)
          have tfin := T9.out.row bR (({ x with slots := sl, vers := 6 } : T8).cs s q)
          refine bodyPost_ret (results_row Tryd.results20 _ _ w.heap.size 30 (({ x with slots := sl, vers := 6 } : T8).cs s q) _ rfl (setRow_box bR _) Tryd.underlying30 rfl infoT) rfl ⟨({ x with slots := sl, vers := 6 } : T8), s, q, rfl, tfin.hasR', tfin.hasQ, tfin.slots_le, ?_, ?_⟩
          · simp at HQL ⊢
            omega
          · exact (HB1.out.trans (H9.out.1.1.below (by omega) (by omega))).trans (setRow_below (Nat.le_refl _) _)
      have h3' : (n1 == 3) = false := by simpa using h3
      clear h3
      have bX := S5.out.1.box (b := y.heap.size) (T := 30) (vs := ({ x with slots := sl } : T8).cs s q) (by simp)
      have bR := BR0.out.grew S5.out.1.1 (by omega)
      go_wp2_with (first
        | refine wpList_load_row rfl 30 (.tmp 4) rfl y.heap.size rfl 30 (({ x with slots := sl } : T8).cs s q) (0, 0) _ bX Tryd.underlying30 rfl infoT ?_
        | refine wpList_store_rowTo rfl 30 (.tmp 2) (.tmp 60) rfl rfl w.heap.size (({ x with slots := sl } : T8).cs s q) rfl rfl 30 #[.int .i64 0, .int .i64 0, .int .i64 0, .int .i64 0, .int .i64 0, .slice none 0 0, .slice none 0 0, .int .i64 0] bR infoT rfl (one8 ({ x with slots := sl } : T8) s q) ?_)
      have tfin := T5.out.row bR (({ x with slots := sl } : T8).cs s q)
      refine bodyPost_ret (results_row Tryd.results20 _ _ w.heap.size 30 (({ x with slots := sl } : T8).cs s q) _ rfl (setRow_box bR _) Tryd.underlying30 rfl infoT) rfl ⟨({ x with slots := sl } : T8), s, q, rfl, tfin.hasR', tfin.hasQ, tfin.slots_le, ?_, ?_⟩
      · simp at HQL ⊢
        omega
      · exact (HB1.out.trans (S5.out.1.1.below (by omega) (by omega))).trans (setRow_below (Nat.le_refl _) _)
end Go.Proofs.YtnfalnmidddkjaaDoor
