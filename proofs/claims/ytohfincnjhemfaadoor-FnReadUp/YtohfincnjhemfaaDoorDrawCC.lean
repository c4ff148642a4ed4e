/-
  A table and a call, drawn.
-/
import Derived.Test.YtohfincnjhemfaaDoorDrawCl
namespace Go.Proofs.YtohfincnjhemfaaDoor
open Go.RowKit
set_option maxRecDepth 100000
set_option linter.unusedVariables false

theorem results_tmp_rowC {P : Program} {fn : Func} {p t1 : Tmp} {ty : TypeId} (h : fn.results = #[.tmp t1, .cell p ty]) (tmps : Array Value) (w : World) (g : Nat) (t : TypeId) (cs : Array Value) (d : TypeDesc)
    (hp : tmps.getD p undef = .pointer (some ⟨g, 0, none⟩)) (hg : Box w g t cs)
    (hu : P.underlying ty = some d) (hd : (match d with | .struct _ | .array _ _ => true | _ => false) = true) (hi : (P.info? ty).map (·.size) = some cs.size) :
    (results fn tmps).run P w = .ok (.tuple #[tmps.getD t1 undef, .agg cs]) w := by
  have hp' : tmps[p]?.getD undef = .pointer (some ⟨g, 0, none⟩) := by simpa using hp
  simp [results, h, hp', asAddr, run_loadVar_row w g t ty cs (0, 0) d hg hu hd hi]
/-- What a table and a call, drawn, leave. -/
def CkPost (w : World) (e : Ending) (w' : World) : Prop :=
  ∃ (g c : Nat) (l : List T8) (q : C5), e = .returned (.tuple #[.slice (some ⟨g, 0, none⟩) l.length c, .agg #[.int .i64 q.k, .int .i64 q.r, .int .i64 q.a, .int .i64 q.b, .int .i64 q.n]]) ∧ HasT w' ⟨some ⟨g, 0, none⟩, l.length, c⟩ l ∧ 3 ≤ l.length ∧ l.length ≤ 8 ∧ (∀ i (h : i < l.length), l[i].slots.length ≤ 1048576) ∧ Below w.heap.size w w'

set_option maxHeartbeats 4000000 in
theorem drawCC_any (a : Option Addr) (len cap : Nat) (zs : List Int) (w : World) (h : IsRow .u8 w a len cap zs) :
    Calls Tryd.prog 27 #[.slice a len cap] w (CkPost w) := by
  have K0 := (Kn.refl (w := w)).new 37 #[.int .i64 0, .int .i64 0, .int .i64 0, .int .i64 0, .int .i64 0]
  have H := Lib.hid (h.below K0.1)
  have HK := Lib.hid K0
  clear h K0
  unfold CkPost
  go_enter Tryd.func27, Tryd.ntmps27
  go_wp2_with fail
  refine (l6Open_any a len cap zs _ H.out).mono ?_
  rintro e w1' ⟨rfl, rfl⟩
  have hR0 := rd_open H.out
  obtain ⟨w1, hw1⟩ : ∃ w1, (w.alloc (.cells #[.int .i64 0, .int .i64 0, .int .i64 0, .int .i64 0, .int .i64 0] 37)).alloc (.cells #[.slice a (min len 2000) cap, .int .i64 0] 109) = w1 := ⟨_, rfl⟩
  have hs1 : (w.alloc (.cells #[.int .i64 0, .int .i64 0, .int .i64 0, .int .i64 0, .int .i64 0] 37)).heap.size = w.heap.size + 1 := by simp
  rw [hs1, hw1] at hR0
  have hz1 : w1.heap.size = w.heap.size + 2 := by rw [← hw1]; simp
  have hb1 := (HK.out.past (.cells #[.slice a (min len 2000) cap, .int .i64 0] 109))
  rw [hw1] at hb1
  have HB1 := Lib.hid hb1.1
  have BR0 := Lib.hid (hb1.box (b := w.heap.size) (T := 37) (vs := #[.int .i64 0, .int .i64 0, .int .i64 0, .int .i64 0, .int .i64 0]) (by simp))
  have S0 := Lib.hid (St.start hR0)
  clear hR0 hb1
  go_wp2_with fail
  refine (l71Fine_any _ a _ cap zs 0 _ S0.out.2.1 (by omega)).mono ?_
  rintro e y ⟨g, c, ts, rfl, tO, t3, t8, p1, hp1, r1, g1⟩
  have S1 := Lib.hid (S0.out.on g1 r1)
  have T1 := Lib.hid tO
  clear tO r1 g1 S0
  obtain ⟨N, hN⟩ : ∃ N, ts.length = N := ⟨_, rfl⟩
  rw [hN] at T1 t3 t8 ⊢
  have HN := Lib.hid hN
  clear hN
  go_wp2_with fail
  refine (l71Call_any _ a _ cap zs p1 _ S1.out.2.1 (by omega) w1.heap.size g c N ts T1.out (by omega) S1.out.1.1.size HN.out t3 t8).mono ?_
  rintro e y2 ⟨q, rfl, p2, hp2, r2, g2⟩
  have S2 := Lib.hid (S1.out.on g2 r2)
  have T2 := Lib.hid (T1.out.grew (by omega) g2)
  clear r2 g2 S1 T1
  have bR := BR0.out.grew S2.out.1.1 (by omega)
  have BR := Lib.hid bR
  have k0 := bR.cell 0 _ rfl
  have k1 := bR.cell 1 _ rfl
  have k2 := bR.cell 2 _ rfl
  have k3 := bR.cell 3 _ rfl
  have k4 := bR.cell 4 _ rfl
  have f0 := bR.thaw 0
  have f1 := bR.thaw 1
  have f2 := bR.thaw 2
  have f3 := bR.thaw 3
  have f4 := bR.thaw 4
  clear bR
  go_wp2
  have bF := ((((BR.out.put 0 (.int .i64 q.k)).put 1 (.int .i64 q.r)).put 2 (.int .i64 q.a)).put 3 (.int .i64 q.b)).put 4 (.int .i64 q.n)
  have n1 : ∀ b', w1.heap.size ≤ b' → b' ≠ w.heap.size := fun b' h => by omega
  have tF : TaO w1.heap.size (((((y2.setCell ⟨w.heap.size, 0, none⟩ (.int .i64 q.k)).setCell ⟨w.heap.size, 1, none⟩ (.int .i64 q.r)).setCell ⟨w.heap.size, 2, none⟩ (.int .i64 q.a)).setCell ⟨w.heap.size, 3, none⟩ (.int .i64 q.b)).setCell ⟨w.heap.size, 4, none⟩ (.int .i64 q.n)) (.slice (some ⟨g, 0, none⟩) N c) ts :=
    T2.out.keep fun b' T' cs hb' bx' _ => ((((bx'.other (n1 b' hb') _).other (n1 b' hb') _).other (n1 b' hb') _).other (n1 b' hb') _).other (n1 b' hb') _
  have hT := TaO.hasT (s := ⟨some ⟨g, 0, none⟩, N, c⟩) tF
  refine bodyPost_ret (results_tmp_rowC Tryd.results27 _ _ w.heap.size 37 (C5.cs q) _ rfl (by simpa using bF) Tryd.underlying37 rfl infoC) rfl ?_
  refine ⟨g, c, ts.map (·.1), q, ?_, ?_, by simp [HN.out]; omega, by simp [HN.out]; omega, tF.sizes, ?_⟩
  · simp [HN.out]
  · simp only [List.length_map, HN.out]; exact hT
  · exact ((((((HB1.out.trans (S2.out.1.1.below (by omega) (by omega))).setCell (p := ⟨w.heap.size, 0, none⟩) (Nat.le_refl _) _).setCell (p := ⟨w.heap.size, 1, none⟩) (Nat.le_refl _) _).setCell (p := ⟨w.heap.size, 2, none⟩) (Nat.le_refl _) _).setCell (p := ⟨w.heap.size, 3, none⟩) (Nat.le_refl _) _).setCell (p := ⟨w.heap.size, 4, none⟩) (Nat.le_refl _) _)
end Go.Proofs.YtohfincnjhemfaaDoor
