/-
  A table and a right, drawn.
-/
import Derived.Test.YtnfalnmidddkjaaDoorDrawFi
namespace Go.Proofs.YtnfalnmidddkjaaDoor
open Go.RowKit
set_option maxRecDepth 100000
set_option linter.unusedVariables false

theorem infoRg : (Tryd.prog.info? 35).map (·.size) = some 5 := by kernel_rfl
theorem one5 (x : R5) : (x.cs).all (·.oneCell') = true := by simp [Value.oneCell']
theorem results_tmp_row {P : Program} {fn : Func} {p t1 : Tmp} {ty : TypeId} (h : fn.results = #[.tmp t1, .cell p ty]) (tmps : Array Value) (w : World) (g : Nat) (t : TypeId) (cs : Array Value) (d : TypeDesc)
    (hp : tmps.getD p undef = .pointer (some ⟨g, 0, none⟩)) (hg : Box w g t cs)
    (hu : P.underlying ty = some d) (hd : (match d with | .struct _ | .array _ _ => true | _ => false) = true) (hi : (P.info? ty).map (·.size) = some cs.size) :
    (results fn tmps).run P w = .ok (.tuple #[tmps.getD t1 undef, .agg cs]) w := by
  have hp' : tmps[p]?.getD undef = .pointer (some ⟨g, 0, none⟩) := by simpa using hp
  simp [results, h, hp', asAddr, run_loadVar_row w g t ty cs (0, 0) d hg hu hd hi]
/-- What a table and a right, drawn, leave. -/
def TLPost (w : World) (e : Ending) (w' : World) : Prop :=
  ∃ (g c : Nat) (l : List T8) (x : R5), e = .returned (.tuple #[.slice (some ⟨g, 0, none⟩) l.length c, rgt x.t x.v x.r x.w x.k]) ∧ HasT w' ⟨some ⟨g, 0, none⟩, l.length, c⟩ l ∧ 3 ≤ l.length ∧ l.length ≤ 8 ∧ (∀ i (h : i < l.length), l[i].slots.length ≤ 1048576) ∧ Below w.heap.size w w'

set_option maxHeartbeats 8000000 in
theorem drawTL_any (a : Option Addr) (len cap : Nat) (zs : List Int) (w : World) (h : IsRow .u8 w a len cap zs) :
    Calls Tryd.prog 29 #[.slice a len cap] w (TLPost w) := by
  have K0 := (Kn.refl (w := w)).new 35 (rgtC 0 0 false false false)
  have H := Lib.hid (h.below K0.1)
  have HK := Lib.hid K0
  clear h K0
  unfold TLPost
  go_enter Tryd.func29, Tryd.ntmps29
  go_wp2_with fail
  refine (l6Open_any a len cap zs _ H.out).mono ?_
  rintro e w1' ⟨rfl, rfl⟩
  have hR0 := rd_open H.out
  obtain ⟨w1, hw1⟩ : ∃ w1, (w.alloc (.cells (rgtC 0 0 false false false) 35)).alloc (.cells #[.slice a (min len 2000) cap, .int .i64 0] 102) = w1 := ⟨_, rfl⟩
  have hs1 : (w.alloc (.cells (rgtC 0 0 false false false) 35)).heap.size = w.heap.size + 1 := by simp
  rw [hs1, hw1] at hR0
  have hz1 : w1.heap.size = w.heap.size + 2 := by rw [← hw1]; simp
  have hb1 := (HK.out.past (.cells #[.slice a (min len 2000) cap, .int .i64 0] 102))
  rw [hw1] at hb1
  have HB1 := Lib.hid hb1.1
  have BR0 := Lib.hid (hb1.box (b := w.heap.size) (T := 35) (vs := rgtC 0 0 false false false) (by simp))
  have S0 := Lib.hid (St.start hR0)
  have hrw := S0.out.2.2.1
  clear hR0 hb1
  go_wp2_with fail
  refine (l71Fine_any _ a _ cap zs 0 _ S0.out.2.1 (by omega)).mono ?_
  rintro e y ⟨g, c, ts, rfl, tO, t3, t8, p1, hp1, r1, g1⟩
  have S1 := Lib.hid (S0.out.on g1 r1)
  have T1 := Lib.hid tO
  clear tO r1 g1 S0
  obtain ⟨N, hN⟩ : ∃ N, ts.length = N := ⟨_, rfl⟩
  rw [hN] at T1 t3 t8 ⊢
  have HN := Lib.hid hN
  clear hN
  go_wp2
  go_loopw [6] (fun i wr => ∃ (k p' : Nat), i = .int .i64 k ∧ k ≤ 6 ∧ p' ≤ 20000 + 3 * k ∧ St w1 (w.heap.size + 1) a (min len 2000) cap zs p' [] wr ∧ TaO w1.heap.size wr (.slice (some ⟨g, 0, none⟩) N c) ts) (fun i _ => 6 - (intOf i).toNat)
  case atStart => exact ⟨0, p1, rfl, by omega, by omega, S1.out, T1.out⟩
  case round =>
    obtain ⟨k, p2, rfl, hk, hp2, sK, tK⟩ := hrel
    have SK := Lib.hid sK
    have TK := Lib.hid tK
    clear sK tK S1 T1
    have last : ∀ (wq : World) (p' : Nat), p' ≤ 20100 → St w1 (w.heap.size + 1) a (min len 2000) cap zs p' [] wq → TaO w1.heap.size wq (.slice (some ⟨g, 0, none⟩) N c) ts → Calls Tryd.prog 55 #[.pointer (some ⟨w.heap.size + 1, 0, none⟩)] wq fun e y => ∃ (x : R5), e = .returned (rgt x.t x.v x.r x.w x.k) ∧ TaO w1.heap.size y (.slice (some ⟨g, 0, none⟩) N c) ts ∧ Box y w.heap.size 35 (rgtC 0 0 false false false) ∧ Below w.heap.size w y := fun wq p' hp' hs ht => by
      refine (l71Right_any _ a _ cap zs p' _ hs.2.1 (by omega)).mono ?_
      rintro e y ⟨tt, vv, rd, wt, kk, -, -, -, -, rfl, p4, hp4, r4, g4⟩
      exact ⟨⟨tt, vv, rd, wt, kk⟩, rfl, ht.grew hrw g4, (BR0.out.grew hs.1.1 (by omega)).grew g4 (by omega), HB1.out.trans ((hs.1.1.trans g4).below (by omega) (by omega))⟩
    have LAST := Lib.hid last
    clear last
    by_cases hlt : k < 6
    · have hlt' : (k : Int) < 6 := by omega
      go_wp2_with fail
      refine (pick_any _ a _ cap zs p2 8 _ SK.out.2.1 (by omega) (by decide) (by decide)).mono ?_
      rintro e w4 ⟨n1, n1a, n1b, rfl, r4, g4, -⟩
      have S4 := Lib.hid (SK.out.on g4 r4)
      have T4 := Lib.hid (TK.out.grew hrw g4)
      clear r4 g4 SK TK
      by_cases h0 : 0 < n1
      · go_wp2_with fail
        refine (pick_any _ a _ cap zs (p2 + 1) N _ S4.out.2.1 (by omega) (by omega) (by omega)).mono ?_
        rintro e w5 ⟨n2, n2a, n2b, rfl, r5, g5, -⟩
        obtain ⟨i, rfl⟩ : ∃ i : Nat, n2 = i := ⟨n2.toNat, by omega⟩
        have S5 := Lib.hid (S4.out.on g5 r5)
        have T5 := Lib.hid (T4.out.grew hrw g5)
        clear r5 g5 S4 T4
        have hiN : i < N := by omega
        have hiN' : (i : Int) < (N : Int) := by omega
        obtain ⟨t, ht⟩ : ∃ t, ts[i]? = some t := ⟨ts[i]'(by rw [HN.out]; exact hiN), List.getElem?_eq_getElem _⟩
        have hA := T5.out.at ht
        have hth := (T5.out.2 t (List.mem_of_getElem? ht)).1
        have hgl := cell_lt (hA 0 _ rfl)
        have d0 : w5.cell? ⟨g, i * 8, none⟩ = some (.int .i64 t.1.kind) := hA 0 _ rfl
        have d1 := hA 1 _ rfl
        have d2 := hA 2 _ rfl
        have d3 := hA 3 _ rfl
        have d4 := hA 4 _ rfl
        have d5 := hA 5 _ rfl
        have d6 := hA 6 _ rfl
        have d7 := hA 7 _ rfl
        have al : Below w5.heap.size w5 (w5.alloc (.cells (t.1.cs t.2.1 t.2.2) 30)) := (Below.refl _ _).alloc (Nat.le_refl _) _
        have S6 := Lib.hid (S5.out.new 30 (t.1.cs t.2.1 t.2.2))
        have T6 := Lib.hid (T5.out.stay al)
        have H6 := Lib.hid (hth.stay al)
        clear hA hth ht al S5 T5
        obtain ⟨x, s, q⟩ := t
        dsimp only at *
        rcases H6.out.1 with ⟨hn0, -⟩ | ⟨b, a1, a2, a3, a4, hb, hse, bx, -⟩
        · obtain ⟨sa, sn, sc⟩ := s
          simp only at hn0
          subst hn0
          go_wp2
          go_roundw
          case rel => exact ⟨k + 1, p2 + 1 + 1, by go_num, by omega, by omega, S6.out.less (by simp), T6.out⟩
          case measure => simp [intOf]; omega
        · subst hse
          have BX := Lib.hid bx
          clear bx
          obtain ⟨Y, hY⟩ : ∃ Y, w5.alloc (.cells (x.cs ⟨some ⟨b, 0, none⟩, 4, 4⟩ q) 30) = Y := ⟨_, rfl⟩
          rw [hY] at S6 T6 BX
          have c5 : Y.cell? ⟨w5.heap.size, 5, none⟩ = some (.slice (some ⟨b, 0, none⟩) 4 4) := S6.out.1.c (b := w5.heap.size) (T := 30) (vs := x.cs ⟨some ⟨b, 0, none⟩, 4, 4⟩ q) (by simp) 5 _ rfl
          have hyl := (S6.out.1.box (b := w5.heap.size) (T := 30) (vs := x.cs ⟨some ⟨b, 0, none⟩, 4, 4⟩ q) (by simp)).lt
          have hbl := BX.out.lt
          clear H6
          go_upto_region 8 with fail
          clear hY d0 d1 d2 d3 d4 d5 d6 d7
          go_region_with (go_at_call 45; refine (pick_any _ a _ cap zs (p2 + 1 + 1) 4 _ S6.out.drew.2.1 (by omega) (by decide) (by decide)).mono ?_; rintro e w7 ⟨n3, n3a, n3b, rfl, r7, g7, -⟩; obtain ⟨j, rfl⟩ : ∃ j : Nat, n3 = j := ⟨n3.toNat, by omega⟩; have hj4 : (j : Int) < 4 := (by omega); have S7 := Lib.hid (S6.out.drew.on g7 r7); have T7 := Lib.hid ((T6.out.stay (Below.refl _ _).drew).grew hrw g7); have bx7 := BX.out.drew.grew g7 (by omega); have c5' := S7.out.1.c (b := w5.heap.size) (T := 30) (vs := x.cs ⟨some ⟨b, 0, none⟩, 4, 4⟩ q) (by simp) 5 _ rfl; have hj4n : j < 4 := (by omega); have hA := (four_has bx7).at (i := j) (show j < 4 from hj4n); obtain ⟨bb, oo, eb, hAt⟩ := hA; simp only [Option.some.injEq, Addr.mk.injEq] at eb; obtain ⟨rfl, rfl, -⟩ := eb; obtain ⟨z, hAt⟩ : ∃ z : R5, At w7 b (0 + j * 5) z.cs := ⟨_, hAt⟩; have m0 := hAt 0 _ rfl; have m1 := hAt 1 _ rfl; have m2 := hAt 2 _ rfl; have m3 := hAt 3 _ rfl; have m4 := hAt 4 _ rfl; simp only [Nat.zero_add, Nat.add_zero] at m0 m1 m2 m3 m4; have hbl7 := bx7.lt; have bR := BR0.out.grew S7.out.1.1 (by omega); have k0 := bR.cell 0 _ rfl; have k1 := bR.cell 1 _ rfl; have k2 := bR.cell 2 _ rfl; have k3 := bR.cell 3 _ rfl; have k4 := bR.cell 4 _ rfl; have f0 := bR.thaw 0; have f1 := bR.thaw 1; have f2 := bR.thaw 2; have f3 := bR.thaw 3; have f4 := bR.thaw 4; have BR := Lib.hid bR; clear r7 g7 hAt bx7 bR)
          all_goals
            go_wp2
            have bF := ((((BR.out.put 0 (.int .i64 z.t)).put 1 (.int .i64 z.v)).put 2 (.bool z.r)).put 3 (.bool z.w)).put 4 (.bool z.k)
            have tF : TaO w1.heap.size (set5 w7 w.heap.size 0 z) (.slice (some ⟨g, 0, none⟩) N c) ts := T7.out.keep fun b' T' cs hb' bx' _ => set5_other bx' (by omega) z
            have hT := TaO.hasT (s := ⟨some ⟨g, 0, none⟩, N, c⟩) tF
            refine bodyPost_ret (results_tmp_row Tryd.results29 _ _ w.heap.size 35 z.cs _ rfl (by simpa using bF) Tryd.underlying35 rfl infoRg) rfl ?_
            refine ⟨g, c, ts.map (·.1), z, ?_, ?_, by simp [HN.out]; omega, by simp [HN.out]; omega, tF.sizes, ?_⟩
            · simp [HN.out]
            · simp only [List.length_map, HN.out]; exact hT
            · exact (HB1.out.trans (S7.out.1.1.below (by omega) (by omega))).trans (set5_below (o := 0) (Nat.le_refl _) z)
      · go_wp2_with fail
        refine (LAST.out _ _ (by omega) S4.out T4.out).mono ?_
        rintro e y9 ⟨z, rfl, t9, b9, hb9⟩
        have T9 := Lib.hid t9
        have B9 := Lib.hid b9
        have HB9 := Lib.hid hb9
        have k0 := b9.cell 0 _ rfl
        have k1 := b9.cell 1 _ rfl
        have k2 := b9.cell 2 _ rfl
        have k3 := b9.cell 3 _ rfl
        have k4 := b9.cell 4 _ rfl
        have f0 := b9.thaw 0
        have f1 := b9.thaw 1
        have f2 := b9.thaw 2
        have f3 := b9.thaw 3
        have f4 := b9.thaw 4
        clear t9 b9 hb9
        go_wp2
        have bF := ((((B9.out.put 0 (.int .i64 z.t)).put 1 (.int .i64 z.v)).put 2 (.bool z.r)).put 3 (.bool z.w)).put 4 (.bool z.k)
        have tF : TaO w1.heap.size (set5 y9 w.heap.size 0 z) (.slice (some ⟨g, 0, none⟩) N c) ts := T9.out.keep fun b' T' cs hb' bx' _ => set5_other bx' (by omega) z
        have hT := TaO.hasT (s := ⟨some ⟨g, 0, none⟩, N, c⟩) tF
        refine bodyPost_ret (results_tmp_row Tryd.results29 _ _ w.heap.size 35 z.cs _ rfl (by simpa using bF) Tryd.underlying35 rfl infoRg) rfl ?_
        refine ⟨g, c, ts.map (·.1), z, ?_, ?_, by simp [HN.out]; omega, by simp [HN.out]; omega, tF.sizes, ?_⟩
        · simp [HN.out]
        · simp only [List.length_map, HN.out]; exact hT
        · exact HB9.out.trans (set5_below (o := 0) (Nat.le_refl _) z)
    · have hlt' : ¬ (k : Int) < 6 := by omega
      go_wp2_with fail
      refine (LAST.out _ _ (by omega) SK.out TK.out).mono ?_
      rintro e y9 ⟨z, rfl, t9, b9, hb9⟩
      have T9 := Lib.hid t9
      have B9 := Lib.hid b9
      have HB9 := Lib.hid hb9
      have k0 := b9.cell 0 _ rfl
      have k1 := b9.cell 1 _ rfl
      have k2 := b9.cell 2 _ rfl
      have k3 := b9.cell 3 _ rfl
      have k4 := b9.cell 4 _ rfl
      have f0 := b9.thaw 0
      have f1 := b9.thaw 1
      have f2 := b9.thaw 2
      have f3 := b9.thaw 3
      have f4 := b9.thaw 4
      clear t9 b9 hb9
      go_wp2
      have bF := ((((B9.out.put 0 (.int .i64 z.t)).put 1 (.int .i64 z.v)).put 2 (.bool z.r)).put 3 (.bool z.w)).put 4 (.bool z.k)
      have tF : TaO w1.heap.size (set5 y9 w.heap.size 0 z) (.slice (some ⟨g, 0, none⟩) N c) ts := T9.out.keep fun b' T' cs hb' bx' _ => set5_other bx' (by omega) z
      have hT := TaO.hasT (s := ⟨some ⟨g, 0, none⟩, N, c⟩) tF
      refine bodyPost_ret (results_tmp_row Tryd.results29 _ _ w.heap.size 35 z.cs _ rfl (by simpa using bF) Tryd.underlying35 rfl infoRg) rfl ?_
      refine ⟨g, c, ts.map (·.1), z, ?_, ?_, by simp [HN.out]; omega, by simp [HN.out]; omega, tF.sizes, ?_⟩
      · simp [HN.out]
      · simp only [List.length_map, HN.out]; exact hT
      · exact HB9.out.trans (set5_below (o := 0) (Nat.le_refl _) z)
end Go.Proofs.YtnfalnmidddkjaaDoor
