/-
  A table with a thing and a label, drawn.
-/
import Derived.Test.YtpahahonopiblaaDoorDrawFi
namespace Go.Proofs.YtpahahonopiblaaDoor
open Go.RowKit
set_option maxRecDepth 100000
set_option linter.unusedVariables false

theorem results_tmp2_row {P : Program} {fn : Func} {p t1 t2 : Tmp} {ty : TypeId} (h : fn.results = #[.tmp t1, .tmp t2, .cell p ty]) (tmps : Array Value) (w : World) (g : Nat) (t : TypeId) (cs : Array Value) (d : TypeDesc)
    (hp : tmps.getD p undef = .pointer (some ⟨g, 0, none⟩)) (hg : Box w g t cs)
    (hu : P.underlying ty = some d) (hd : (match d with | .struct _ | .array _ _ => true | _ => false) = true) (hi : (P.info? ty).map (·.size) = some cs.size) :
    (results fn tmps).run P w = .ok (.tuple #[tmps.getD t1 undef, tmps.getD t2 undef, .agg cs]) w := by
  have hp' : tmps[p]?.getD undef = .pointer (some ⟨g, 0, none⟩) := by simpa using hp
  simp [results, h, hp', asAddr, run_loadVar_row w g t ty cs (0, 0) d hg hu hd hi]
theorem infoLab : (Tryd.prog.info? 33).map (·.size) = some 2 := by kernel_rfl
/-- What a table with a thing and a label, drawn, leaves. -/
def HighPost (w : World) (e : Ending) (w' : World) : Prop :=
  ∃ (g c : Nat) (l : List T8) (n sl vl : Int), e = .returned (.tuple #[.slice (some ⟨g, 0, none⟩) l.length c, .int .i64 n, lab sl vl]) ∧ HasT w' ⟨some ⟨g, 0, none⟩, l.length, c⟩ l ∧ 3 ≤ l.length ∧ l.length ≤ 8 ∧ (∀ i (h : i < l.length), l[i].slots.length ≤ 1048576) ∧ 1 ≤ n ∧ n ≤ (l.length : Int) + 8 ∧ Below w.heap.size w w'
abbrev putL (W : World) (b : Nat) (sl vl : Int) : World := (W.setCell ⟨b, 0, none⟩ (.int .i64 sl)).setCell ⟨b, 1, none⟩ (.int .i64 vl)

set_option maxHeartbeats 4000000 in
theorem drawHigh_any (a : Option Addr) (len cap : Nat) (zs : List Int) (w : World) (h : IsRow .u8 w a len cap zs) :
    Calls Tryd.prog 25 #[.slice a len cap] w (HighPost w) := by
  have K0 := (Kn.refl (w := w)).new 33 #[.int .i64 0, .int .i64 0]
  have H := Lib.hid (h.below K0.1)
  have HK := Lib.hid K0
  clear h K0
  unfold HighPost
  go_enter Tryd.func25, Tryd.ntmps25
  go_wp2_with fail
  refine (l6Open_any a len cap zs _ H.out).mono ?_
  rintro e w1' ⟨rfl, rfl⟩
  have hR0 := rd_open H.out
  obtain ⟨w1, hw1⟩ : ∃ w1, (w.alloc (.cells #[.int .i64 0, .int .i64 0] 33)).alloc (.cells #[.slice a (min len 2000) cap, .int .i64 0] 123) = w1 := ⟨_, rfl⟩
  have hs1 : (w.alloc (.cells #[.int .i64 0, .int .i64 0] 33)).heap.size = w.heap.size + 1 := by simp
  rw [hs1, hw1] at hR0
  have hz1 : w1.heap.size = w.heap.size + 2 := by rw [← hw1]; simp
  have hb1 := (HK.out.past (.cells #[.slice a (min len 2000) cap, .int .i64 0] 123))
  rw [hw1] at hb1
  have HB1 := Lib.hid hb1.1
  have BR0 := Lib.hid (hb1.box (b := w.heap.size) (T := 33) (vs := #[.int .i64 0, .int .i64 0]) (by simp))
  have S0 := Lib.hid (St.start hR0)
  clear hR0 hb1
  go_wp2_with fail
  refine (l71Fine_any _ a _ cap zs 0 _ S0.out.2.1 (by omega)).mono ?_
  rintro e y ⟨g, c, ts, rfl, tO, t3, t8, p1, hp1, r1, g1⟩
  have S1 := Lib.hid (S0.out.on g1 r1)
  have T1 := Lib.hid tO
  clear tO r1 g1 S0
  obtain ⟨N, hN⟩ : ∃ N, ts.length = N := ⟨_, rfl⟩
  rw [hN] at T1 t3 t8 ⊢
  have HN := Lib.hid hN
  clear hN
  go_wp2_with fail
  refine (pick_any _ a _ cap zs p1 N _ S1.out.2.1 (by omega) (by omega) (by omega)).mono ?_
  rintro e y3 ⟨n3, n3a, n3b, rfl, r3, g3, -⟩
  have S3 := Lib.hid (S1.out.on g3 r3)
  have T3 := Lib.hid (T1.out.grew (by omega) g3)
  clear r3 g3 S1 T1
  go_wp2_with fail
  refine (pick_any _ a _ cap zs (p1 + 1) 24 _ S3.out.2.1 (by omega) (by decide) (by decide)).mono ?_
  rintro e y4 ⟨n4, n4a, n4b, rfl, r4, g4, -⟩
  have S4 := Lib.hid (S3.out.on g4 r4)
  have T4 := Lib.hid (T3.out.grew (by omega) g4)
  clear r4 g4 S3 T3
  obtain ⟨q, hq, hq01⟩ : ∃ q : Int, Int.tdiv n4 23 = q ∧ (q = 0 ∨ q = 1) := ⟨_, rfl, by rw [Int.tdiv_eq_ediv_of_nonneg n4a]; omega⟩
  have w1a : wrap64 (1 + n3) = 1 + n3 := by unfold wrap64; omega
  have w1b : IntKind.i64.wrap (1 + n3) = 1 + n3 := IntWalk.i64_in _ (by omega)
  have w2a : wrap64 (1 + n3 + 8) = 1 + n3 + 8 := by unfold wrap64; omega
  have w2b : IntKind.i64.wrap (1 + n3 + 8) = 1 + n3 + 8 := IntWalk.i64_in _ (by omega)
  go_wp2_with fail
  refine (l71Label_any _ a _ cap zs (p1 + 1 + 1) _ S4.out.2.1 (by omega)).mono ?_
  rintro e y5 ⟨sl, vl, -, -, -, rfl, p5, hp5, r5, g5⟩
  have S5 := Lib.hid (S4.out.on g5 r5)
  have T5 := Lib.hid (T4.out.grew (by omega) g5)
  clear r5 g5 S4 T4
  have RB := BR0.out.grew S5.out.1.1 (by omega)
  have j0 := RB.cell 0 _ rfl
  have j1 := RB.cell 1 _ rfl
  have f0 := RB.thaw 0
  have f1 := RB.thaw 1
  have bF := Lib.hid (show Box (putL y5 w.heap.size sl vl) w.heap.size 33 #[.int .i64 sl, .int .i64 vl] by simpa using (RB.put 0 (.int .i64 sl)).put 1 (.int .i64 vl))
  have TF := Lib.hid (show TaO w1.heap.size (putL y5 w.heap.size sl vl) (.slice (some ⟨g, 0, none⟩) N c) ts from T5.out.keep fun b' T' cs hb' bx' _ => by
    have n1 : b' ≠ w.heap.size := by omega
    exact (bx'.other n1 _).other n1 _)
  have BF := Lib.hid (show Below w.heap.size w (putL y5 w.heap.size sl vl) from ((HB1.out.trans (S5.out.1.1.below (by omega) (by omega))).setCell (p := ⟨w.heap.size, 0, none⟩) (Nat.le_refl _) _).setCell (p := ⟨w.heap.size, 1, none⟩) (Nat.le_refl _) _)
  clear RB
  rcases hq01 with rfl | rfl
  · go_wp2
    refine bodyPost_ret (results_tmp2_row Tryd.results25 _ _ w.heap.size 33 #[.int .i64 sl, .int .i64 vl] _ rfl bF.out Tryd.underlying33 rfl infoLab) rfl ?_
    have hT := TaO.hasT (s := ⟨some ⟨g, 0, none⟩, N, c⟩) TF.out
    refine ⟨g, c, ts.map (·.1), 1 + n3, sl, vl, ?he, ?ht, by simp [HN.out]; omega, by simp [HN.out]; omega, TF.out.sizes, by omega, by simp [HN.out]; omega, BF.out⟩
    case he => simp only [List.length_map, HN.out]; rfl
    case ht => simp only [List.length_map, HN.out]; exact hT
  · go_wp2
    refine bodyPost_ret (results_tmp2_row Tryd.results25 _ _ w.heap.size 33 #[.int .i64 sl, .int .i64 vl] _ rfl bF.out Tryd.underlying33 rfl infoLab) rfl ?_
    have hT := TaO.hasT (s := ⟨some ⟨g, 0, none⟩, N, c⟩) TF.out
    refine ⟨g, c, ts.map (·.1), 1 + n3 + 8, sl, vl, ?he, ?ht, by simp [HN.out]; omega, by simp [HN.out]; omega, TF.out.sizes, by omega, by simp [HN.out]; omega, BF.out⟩
    case he => simp only [List.length_map, HN.out]; rfl
    case ht => simp only [List.length_map, HN.out]; exact hT
end Go.Proofs.YtpahahonopiblaaDoor
