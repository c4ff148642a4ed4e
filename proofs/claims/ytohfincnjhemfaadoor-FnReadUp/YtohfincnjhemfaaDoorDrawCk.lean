/-
  A runner drawn, and a table with a runner and a thing.
-/
import Derived.Test.YtohfincnjhemfaaDoorDrawFi
namespace Go.Proofs.YtohfincnjhemfaaDoor
open Go.RowKit
set_option maxRecDepth 100000
set_option linter.unusedVariables false

set_option maxHeartbeats 4000000 in
theorem l71Run_any (r : Nat) (a : Option Addr) (len cap : Nat) (zs : List Int) (p : Nat) (w : World) (hR : Rd w r a len cap zs p) (hp : p ≤ 200000) (n0 g c N : Nat) (ts : List Tr) (hT : TaO n0 w (.slice (some ⟨g, 0, none⟩) N c) ts) (hr : r < n0) (hN : ts.length = N) (h3 : 3 ≤ N) (h8 : N ≤ 8) :
    Calls Tryd.prog 46 #[.pointer (some ⟨r, 0, none⟩), .slice (some ⟨g, 0, none⟩) N c] w fun e w' => ∃ k : Int, e = .returned (.int .i64 k) ∧ 1 ≤ k ∧ k ≤ N ∧ ∃ p', p' ≤ p + 20 ∧ Rd w' r a len cap zs p' ∧ Grew r w w' := by
  have S0 := Lib.hid (St.start hR)
  have T0 := Lib.hid hT
  have HN := Lib.hid hN
  clear hR hT hN
  go_enter Tryd.func46, Tryd.ntmps46
  go_wp2
  go_loopw [5] (fun i wr => ∃ (k p' : Nat), i = .int .i64 k ∧ k ≤ 6 ∧ p' ≤ p + 2 * k ∧ St w r a len cap zs p' [] wr ∧ TaO n0 wr (.slice (some ⟨g, 0, none⟩) N c) ts) (fun i _ => 6 - (intOf i).toNat)
  case atStart => exact ⟨0, p, rfl, by omega, by omega, S0.out, T0.out⟩
  case round =>
    clear S0 T0
    obtain ⟨k, p2, rfl, hk, hp2, sK, tK⟩ := hrel
    have SK := Lib.hid sK
    have TK := Lib.hid tK
    clear sK tK
    by_cases hlt : k < 6
    · have hlt' : (k : Int) < 6 := by omega
      go_wp2_with fail
      refine (pick_any _ a _ cap zs p2 24 _ SK.out.2.1 (by omega) (by decide) (by decide)).mono ?_
      rintro e w4 ⟨n1, n1a, n1b, rfl, r4, g4, -⟩
      have S4 := Lib.hid (SK.out.on g4 r4)
      have T4 := Lib.hid (TK.out.grew hr g4)
      clear r4 g4 SK TK
      by_cases h0 : 0 < n1
      · go_wp2_with fail
        refine (pick_any _ a _ cap zs (p2 + 1) N _ S4.out.2.1 (by omega) (by omega) (by omega)).mono ?_
        rintro e w5 ⟨n2, n2a, n2b, rfl, r5, g5, -⟩
        obtain ⟨i, rfl⟩ : ∃ i : Nat, n2 = i := ⟨n2.toNat, by omega⟩
        have S5 := Lib.hid (S4.out.on g5 r5)
        have T5 := Lib.hid (T4.out.grew hr g5)
        clear r5 g5 S4 T4
        have hiN : i < N := by omega
        have hiN' : (i : Int) < (N : Int) := by omega
        obtain ⟨t, ht⟩ : ∃ t, ts[i]? = some t := ⟨ts[i]'(by rw [HN.out]; exact hiN), List.getElem?_eq_getElem _⟩
        have d0 : w5.cell? ⟨g, i * 8, none⟩ = some (.int .i64 t.1.kind) := T5.out.at ht 0 _ rfl
        generalize t.1.kind = kd at d0
        clear ht
        by_cases hk3 : kd = 3
        · subst hk3
          go_wp2
          go_ret
          exact ⟨_, rfl, by omega, by omega, p2 + 1 + 1, by omega, S5.out.2.1, S5.out.1.1⟩
        · have hk3' : (kd == 3) = false := by simpa using hk3
          go_wp2
          go_roundw
          case rel => exact ⟨k + 1, p2 + 1 + 1, by go_num, by omega, by omega, S5.out, T5.out⟩
          case measure => simp [intOf]; omega
      · go_wp2_with fail
        refine (pick_any _ a _ cap zs (p2 + 1) N _ S4.out.2.1 (by omega) (by omega) (by omega)).mono ?_
        rintro e w5 ⟨n2, n2a, n2b, rfl, r5, g5, -⟩
        have S5 := Lib.hid (S4.out.on g5 r5)
        clear r5 g5 S4 T4
        go_wp2
        go_ret
        exact ⟨_, rfl, by omega, by omega, p2 + 1 + 1, by omega, S5.out.2.1, S5.out.1.1⟩
    · have hlt' : ¬ (k : Int) < 6 := by omega
      go_wp2_with fail
      refine (pick_any _ a _ cap zs p2 N _ SK.out.2.1 (by omega) (by omega) (by omega)).mono ?_
      rintro e w5 ⟨n2, n2a, n2b, rfl, r5, g5, -⟩
      have S5 := Lib.hid (SK.out.on g5 r5)
      clear r5 g5 SK TK
      go_wp2
      go_ret
      exact ⟨_, rfl, by omega, by omega, p2 + 1, by omega, S5.out.2.1, S5.out.1.1⟩

theorem results_tmp3 {P : Program} {fn : Func} {t1 t2 t3 : Tmp} (h : fn.results = #[.tmp t1, .tmp t2, .tmp t3]) (tmps : Array Value) (w : World) :
    (results fn tmps).run P w = .ok (.tuple #[tmps.getD t1 undef, tmps.getD t2 undef, tmps.getD t3 undef]) w := by simp [results, h]
/-- What a table with a runner and a thing, drawn, leaves. -/
def SeesPost (w : World) (e : Ending) (w' : World) : Prop :=
  ∃ (g c : Nat) (l : List T8) (rn tn : Int), e = .returned (.tuple #[.slice (some ⟨g, 0, none⟩) l.length c, .int .i64 rn, .int .i64 tn]) ∧ HasT w' ⟨some ⟨g, 0, none⟩, l.length, c⟩ l ∧ 3 ≤ l.length ∧ l.length ≤ 8 ∧ (∀ i (h : i < l.length), l[i].slots.length ≤ 1048576) ∧ 1 ≤ rn ∧ rn ≤ l.length ∧ 0 ≤ tn ∧ tn ≤ (l.length : Int) + 1 ∧ Below w.heap.size w w'

set_option maxHeartbeats 4000000 in
theorem drawSees_any (a : Option Addr) (len cap : Nat) (zs : List Int) (w : World) (h : IsRow .u8 w a len cap zs) :
    Calls Tryd.prog 19 #[.slice a len cap] w (SeesPost w) := by
  have H := Lib.hid h
  clear h
  unfold SeesPost
  go_enter Tryd.func19, Tryd.ntmps19
  go_wp2_with fail
  refine (l6Open_any a len cap zs _ H.out).mono ?_
  rintro e w1' ⟨rfl, rfl⟩
  have hR0 := rd_open H.out
  obtain ⟨w1, hw1⟩ : ∃ w1, w.alloc (.cells #[.slice a (min len 2000) cap, .int .i64 0] 109) = w1 := ⟨_, rfl⟩
  rw [hw1] at hR0
  have hz1 : w1.heap.size = w.heap.size + 1 := by rw [← hw1]; simp
  have hb1 : Below w.heap.size w w1 := by rw [← hw1]; exact (Below.refl _ _).alloc (Nat.le_refl _) _
  have HB1 := Lib.hid hb1
  have S0 := Lib.hid (St.start hR0)
  clear hR0 hb1
  go_wp2_with fail
  refine (l71Fine_any _ a _ cap zs 0 _ S0.out.2.1 (by omega)).mono ?_
  rintro e y ⟨g, c, ts, rfl, tO, t3, t8, p1, hp1, r1, g1⟩
  have S1 := Lib.hid (S0.out.on g1 r1)
  have T1 := Lib.hid tO
  clear tO r1 g1 S0
  obtain ⟨N, hN⟩ : ∃ N, ts.length = N := ⟨_, rfl⟩
  rw [hN] at T1 t3 t8 ⊢
  have HN := Lib.hid hN
  clear hN
  go_wp2_with fail
  refine (l71Run_any _ a _ cap zs p1 _ S1.out.2.1 (by omega) w1.heap.size g c N ts T1.out (by omega) HN.out t3 t8).mono ?_
  rintro e y2 ⟨rn, rfl, k1, k2, p2, hp2, r2, g2⟩
  have S2 := Lib.hid (S1.out.on g2 r2)
  have T2 := Lib.hid (T1.out.grew (by omega) g2)
  clear r2 g2 S1 T1
  go_wp2_with fail
  refine (pick_any _ a _ cap zs p2 (N + 1) _ S2.out.2.1 (by omega) (by omega) (by omega)).mono ?_
  rintro e y3 ⟨n3, n3a, n3b, rfl, r3, g3, -⟩
  have S3 := Lib.hid (S2.out.on g3 r3)
  have T3 := Lib.hid (T2.out.grew (by omega) g3)
  clear r3 g3 S2 T2
  go_wp2_with fail
  refine (pick_any _ a _ cap zs (p2 + 1) 2 _ S3.out.2.1 (by omega) (by omega) (by omega)).mono ?_
  rintro e y4 ⟨n4, n4a, n4b, rfl, r4, g4, -⟩
  have S4 := Lib.hid (S3.out.on g4 r4)
  have T4 := Lib.hid (T3.out.grew (by omega) g4)
  clear r4 g4 S3 T3
  go_wp2_with fail
  refine (pick_any _ a _ cap zs (p2 + 1 + 1) 2 _ S4.out.2.1 (by omega) (by omega) (by omega)).mono ?_
  rintro e y5 ⟨n5, n5a, n5b, rfl, r5, g5, -⟩
  have S5 := Lib.hid (S4.out.on g5 r5)
  have T5 := Lib.hid (T4.out.grew (by omega) g5)
  clear r5 g5 S4 T4
  have hT := Lib.hid (TaO.hasT (s := ⟨some ⟨g, 0, none⟩, N, c⟩) T5.out)
  have m4 : n4 = 0 ∨ n4 = 1 := by omega
  have m5 : n5 = 0 ∨ n5 = 1 := by omega
  rcases m4 with rfl | rfl <;> rcases m5 with rfl | rfl
  · go_wp2
    refine bodyPost_ret (results_tmp3 Tryd.results19 _ _) rfl ?_
    refine ⟨g, c, ts.map (·.1), rn, n3, ?he, ?ht, by simp [HN.out]; omega, by simp [HN.out]; omega, T5.out.sizes, k1, by simp [HN.out]; omega, by omega, ?h1, ?hb⟩
    case he => simp only [List.length_map, HN.out]; rfl
    case ht => simp only [List.length_map, HN.out]; exact hT.out
    case h1 => simp only [List.length_map, HN.out]; omega
    case hb => exact HB1.out.trans (S5.out.1.1.below (by omega) (by omega))
  · go_wp2
    refine bodyPost_ret (results_tmp3 Tryd.results19 _ _) rfl ?_
    refine ⟨g, c, ts.map (·.1), rn, n3, ?he, ?ht, by simp [HN.out]; omega, by simp [HN.out]; omega, T5.out.sizes, k1, by simp [HN.out]; omega, by omega, ?h1, ?hb⟩
    case he => simp only [List.length_map, HN.out]; rfl
    case ht => simp only [List.length_map, HN.out]; exact hT.out
    case h1 => simp only [List.length_map, HN.out]; omega
    case hb => exact HB1.out.trans (S5.out.1.1.below (by omega) (by omega))
  · go_wp2
    refine bodyPost_ret (results_tmp3 Tryd.results19 _ _) rfl ?_
    refine ⟨g, c, ts.map (·.1), rn, n3, ?he, ?ht, by simp [HN.out]; omega, by simp [HN.out]; omega, T5.out.sizes, k1, by simp [HN.out]; omega, by omega, ?h1, ?hb⟩
    case he => simp only [List.length_map, HN.out]; rfl
    case ht => simp only [List.length_map, HN.out]; exact hT.out
    case h1 => simp only [List.length_map, HN.out]; omega
    case hb => exact HB1.out.trans (S5.out.1.1.below (by omega) (by omega))
  · go_wp2
    refine bodyPost_ret (results_tmp3 Tryd.results19 _ _) rfl ?_
    refine ⟨g, c, ts.map (·.1), rn, n3 + 1, ?he, ?ht, by simp [HN.out]; omega, by simp [HN.out]; omega, T5.out.sizes, k1, by simp [HN.out]; omega, by omega, ?h1, ?hb⟩
    case he => simp only [List.length_map, HN.out]; rfl
    case ht => simp only [List.length_map, HN.out]; exact hT.out
    case h1 => simp only [List.length_map, HN.out]; omega
    case hb => exact HB1.out.trans (S5.out.1.1.below (by omega) (by omega))

set_option maxHeartbeats 1000000 in
theorem drawTou_any (a : Option Addr) (len cap : Nat) (zs : List Int) (w : World) (h : IsRow .u8 w a len cap zs) :
    Calls Tryd.prog 25 #[.slice a len cap] w (SeesPost w) := by
  have H := Lib.hid h
  clear h
  unfold SeesPost
  go_enter Tryd.func25, Tryd.ntmps25
  go_wp2_with fail
  refine (drawSees_any a len cap zs _ H.out).mono ?_
  rintro e y ⟨g, c, l, rn, tn, rfl, hp⟩
  have HP := Lib.hid hp
  clear hp
  go_wp2
  refine bodyPost_ret (results_tmp3 Tryd.results25 _ _) rfl ?_
  exact ⟨g, c, l, rn, tn, rfl, HP.out⟩
end Go.Proofs.YtohfincnjhemfaaDoor
