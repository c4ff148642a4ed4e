/-
  Texts of ours as one: Rng, DeeA, DeeS, DeeP, DeeR.
-/
import Derived.Test.YtbopficnajdaoaaGreatDoorTaM
import Derived.Laws.CopyRow
import Derived.Laws.IdiomCopy
import Derived.BigRegion
import Derived.Test.YtbopficnajdaoaaGreatDoorCalA
import Derived.Test.YtbopficnajdaoaaGreatDoorThgN
import Derived.Deep.DeepCutAuto
import Derived.Deep.RegionHeld3
namespace Go.Proofs.YtbopficnajdaoaaGreatDoor
open Go.RowKit
set_option maxRecDepth 100000
set_option linter.unusedVariables false

abbrev rgC (a b c f n : Int) : Array Value := #[.int .i64 a, .int .i64 b, .int .i64 c, .int .i64 f, .int .i64 n]
/-- The ring of a queue. -/
def p0 (l : List Int) : Int := l[0]?.getD 0
def p1 (l : List Int) : Int := l[1]?.getD 0
def p2 (l : List Int) : Int := l[2]?.getD 0
theorem infoG : (Tryz.prog.info? 152).map (·.size) = some 5 := by kernel_rfl
theorem infoI1 : (Tryz.prog.info? 3).map (·.size) = some 1 := by kernel_rfl
theorem oneG (a b c f n : Int) : (rgC a b c f n).all (·.oneCell') = true := by simp [Value.oneCell']
theorem q_cells {w : World} {q : Sl} {l : List Int} (h : HasQ w q l) {b o : Nat} (e : q.a = some ⟨b, o, none⟩) : ∀ j v, (l.map fun n => Value.int .i64 n)[j]? = some v → w.cell? ((⟨b, o, none⟩ : Addr).add j) = some v := by
  intro j v hj
  simp only [List.getElem?_map, Option.map_eq_some_iff] at hj
  obtain ⟨n, hn, rfl⟩ := hj
  have hi : j < l.length := (List.getElem?_eq_some_iff.1 hn).1
  obtain ⟨b', o', e', hc⟩ := h.at hi
  rw [e] at e'
  cases e'
  rw [addr_add]
  rw [List.getElem?_eq_getElem hi] at hn
  cases hn
  exact hc
/-- The numbers are copied into the places. -/
theorem results_tmp2 {P : Program} {fn : Func} {t1 t2 : Tmp} (h : fn.results = #[.tmp t1, .tmp t2]) (tmps : Array Value) (w : World) : (results fn tmps).run P w = .ok (.tuple #[tmps.getD t1 undef, tmps.getD t2 undef]) w := by
  simp [results, h]
theorem ring_copied (l : List Int) (q : Sl) (w : World) (hq : HasQ w q l) (hl : l.length ≤ 3) :
    ∃ w5, (Builtin.copy_ #[38, 38] 3 #[.slice (some ⟨w.heap.size + 1, 0, none⟩) 3 3, .slice q.a q.n q.c]).run Tryz.prog
        ((w.alloc (.cells (rgC 0 0 0 0 0) 152)).alloc (.cells (rgC 0 0 0 0 0) 152)) = .ok (.int .i64 (l.length : Int)) w5 ∧
      Kn w [(w.heap.size, 152, rgC 0 0 0 0 0), (w.heap.size + 1, 152, rgC (p0 l) (p1 l) (p2 l) 0 0)] w5 := by
  have hB : Below w.heap.size w ((w.alloc (.cells (rgC 0 0 0 0 0) 152)).alloc (.cells (rgC 0 0 0 0 0) 152)) := ((Below.refl _ _).alloc (Nat.le_refl _) _).alloc (by simp) _
  have b1 : Box ((w.alloc (.cells (rgC 0 0 0 0 0) 152)).alloc (.cells (rgC 0 0 0 0 0) 152)) w.heap.size 152 (rgC 0 0 0 0 0) := (Box.fresh _ _ _).past _
  have b2 : Box ((w.alloc (.cells (rgC 0 0 0 0 0) 152)).alloc (.cells (rgC 0 0 0 0 0) 152)) (w.heap.size + 1) 152 (rgC 0 0 0 0 0) := by
    have := Box.fresh (w.alloc (.cells (rgC 0 0 0 0 0) 152)) 152 (rgC 0 0 0 0 0)
    simpa using this
  have hqn : q.n = l.length := hq.len
  by_cases h0 : l = []
  · subst h0
    refine ⟨_, ?_, hB, fun t ht => ?_⟩
    · have := run_copy_none (P := Tryz.prog) ((w.alloc (.cells (rgC 0 0 0 0 0) 152)).alloc (.cells (rgC 0 0 0 0 0) 152)) 38 38 3 3 (some ⟨w.heap.size + 1, 0, none⟩) q.a 3 3 q.n q.c Tryz.underlying38 infoI1 (by rw [hqn]; rfl)
      exact this
    · simp at ht
      rcases ht with rfl | rfl
      · exact b1
      · exact b2
  · have hpos : 0 < l.length := List.length_pos_iff.2 h0
    obtain ⟨b, o, e, -⟩ := hq.at hpos
    have hq' := hq.stay hB
    have hr := run_copy_row (P := Tryz.prog) ((w.alloc (.cells (rgC 0 0 0 0 0) 152)).alloc (.cells (rgC 0 0 0 0 0) 152)) 38 38 3 3 (w.heap.size + 1) 0 3 3 ⟨b, o, none⟩ q.n q.c (rgC 0 0 0 0 0) 152 (l.map fun n => Value.int .i64 n) Tryz.underlying38 infoI1 b2
      (by rw [List.length_map, hqn]; exact (Nat.min_eq_left hl).symm) (q_cells hq' e) (by simp; omega) (fun v hv => by simp at hv; obtain ⟨n, -, rfl⟩ := hv; rfl)
    rw [e]
    rw [List.length_map] at hr
    have hcs : ((rgC 0 0 0 0 0).toList.take 0 ++ (l.map fun n => Value.int .i64 n) ++ (rgC 0 0 0 0 0).toList.drop (0 + l.length)).toArray = rgC (p0 l) (p1 l) (p2 l) 0 0 := by
      match l, hl with
      | [], _ => rfl
      | [a], _ => rfl
      | [a, b], _ => rfl
      | [a, b, c], _ => rfl
      | a :: b :: c :: d :: l, hl => simp at hl
    rw [hcs] at hr
    refine ⟨_, hr, hB.trans (setRow_below (by omega) _), fun t ht => ?_⟩
    simp at ht
    rcases ht with rfl | rfl
    · exact setRow_other b1 (by omega)
    · exact setRow_box b2 _
set_option maxHeartbeats 2000000 in
theorem ringOf_any (l : List Int) (q : Sl) (w : World) (hq : HasQ w q l) (hl : l.length ≤ 3) :
    Calls Tryz.prog 114 #[.slice q.a q.n q.c] w fun e w' => e = .returned (.agg (rgC (p0 l) (p1 l) (p2 l) 0 l.length)) ∧ Below w.heap.size w w' := by
  obtain ⟨w5, hcp, K5⟩ := ring_copied l q w hq hl
  generalize (l.length : Int) = n at *
  have b1 := K5.box (b := w.heap.size) (T := 152) (vs := rgC 0 0 0 0 0) (by simp)
  have b2 := K5.box (b := w.heap.size + 1) (T := 152) (vs := rgC (p0 l) (p1 l) (p2 l) 0 0) (by simp)
  obtain ⟨Y, hY⟩ : ∃ Y, w5.setCell ⟨w.heap.size + 1, 4, none⟩ (.int .i64 n) = Y := ⟨_, rfl⟩
  have e4 := b2.cell 4 _ rfl
  have f4 := b2.thaw 4
  have c2 : Box Y (w.heap.size + 1) 152 (rgC (p0 l) (p1 l) (p2 l) 0 n) := by
    have := b2.put 4 (.int .i64 n)
    rw [hY] at this
    exact this
  have c1 : Box Y w.heap.size 152 (rgC 0 0 0 0 0) := hY ▸ b1.other (show w.heap.size ≠ w.heap.size + 1 by omega) _
  have HB := Lib.hid (show Below w.heap.size w Y from hY ▸ K5.1.setCell (p := ⟨w.heap.size + 1, 4, none⟩) (by dsimp only; omega) _)
  have d0 := c2.cell 0 _ rfl
  have d1 := c2.cell 1 _ rfl
  have d2 := c2.cell 2 _ rfl
  have d3 := c2.cell 3 _ rfl
  have d4 := c2.cell 4 _ rfl
  have C1 := Lib.hid c1
  clear K5 b1 b2 hq hl c2 c1
  go_enter Tryz.func114, Tryz.ntmps114
  go_wp2_with (refine wpList_store_rowTo rfl 152 (.tmp 2) (.tmp 9) rfl rfl w.heap.size (rgC (p0 l) (p1 l) (p2 l) 0 n) rfl rfl 152 (rgC 0 0 0 0 0) C1.out infoG rfl (oneG _ _ _ _ _) ?_)
  refine bodyPost_ret (results_row Tryz.results114 _ _ w.heap.size 152 (rgC (p0 l) (p1 l) (p2 l) 0 n) _ rfl (setRow_box C1.out _) Tryz.underlying152 rfl infoG) rfl ⟨rfl, ?_⟩
  exact HB.out.trans (setRow_below (Nat.le_refl _) _)
set_option maxHeartbeats 4000000 in
theorem put_any (r : Nat) (a b c : Int) (k : Nat) (hk : k < 3) (n : Int) (w : World) (bx : Box w r 152 (rgC a b c 0 k)) :
    Calls Tryz.prog 115 #[.pointer (some ⟨r, 0, none⟩), .int .i64 n] w fun e w' => e = .returned (.bool true) ∧
      Box w' r 152 (rgC (if k = 0 then n else a) (if k = 1 then n else b) (if k = 2 then n else c) 0 ((k : Int) + 1)) ∧ Grew r w w' := by
  have hc : k = 0 ∨ k = 1 ∨ k = 2 := by omega
  rcases hc with rfl | rfl | rfl
  all_goals
    have e0 := bx.cell 0 _ rfl
    have e1 := bx.cell 1 _ rfl
    have e2 := bx.cell 2 _ rfl
    have e3 := bx.cell 3 _ rfl
    have e4 := bx.cell 4 _ rfl
    have f0 := bx.thaw 0
    have f1 := bx.thaw 1
    have f2 := bx.thaw 2
    have f3 := bx.thaw 3
    have f4 := bx.thaw 4
    have BX := Lib.hid bx
    clear bx
    go_enter Tryz.func115, Tryz.ntmps115
    go_wp2_with fail
    go_region
    go_wp2
    go_ret
    refine ⟨rfl, ?_, ?_⟩
    · first
        | exact (BX.out.drew.put 0 (.int .i64 n)).put 4 (.int .i64 1)
        | exact (BX.out.drew.put 1 (.int .i64 n)).put 4 (.int .i64 2)
        | exact (BX.out.drew.put 2 (.int .i64 n)).put 4 (.int .i64 3)
    · exact ((Grew.refl r w).drew.put (.inl rfl) _).put (.inl rfl) _
set_option maxHeartbeats 4000000 in
theorem put_full (r : Nat) (a b c f : Int) (n : Int) (w : World) (bx : Box w r 152 (rgC a b c f 3)) :
    Calls Tryz.prog 115 #[.pointer (some ⟨r, 0, none⟩), .int .i64 n] w fun e w' => e = .returned (.bool false) ∧ w = w' := by
  have e4 := bx.cell 4 _ rfl
  clear bx
  go_enter Tryz.func115, Tryz.ntmps115
  go_wp2
  go_ret
  exact ⟨rfl, rfl⟩
set_option maxHeartbeats 4000000 in
theorem take_none (r : Nat) (a b c f : Int) (w : World) (bx : Box w r 152 (rgC a b c f 0)) :
    Calls Tryz.prog 117 #[.pointer (some ⟨r, 0, none⟩)] w fun e w' => e = .returned (.tuple #[.int .i64 0, .bool false]) ∧ w = w' := by
  have e4 := bx.cell 4 _ rfl
  clear bx
  go_enter Tryz.func117, Tryz.ntmps117
  go_wp2
  exact bodyPost_ret (results_tmp2 Tryz.results117 _ _) rfl ⟨rfl, rfl⟩
set_option maxHeartbeats 4000000 in
theorem take_any (r : Nat) (a b c : Int) (k : Nat) (hk : k < 3) (w : World) (bx : Box w r 152 (rgC a b c 0 ((k : Int) + 1))) :
    Calls Tryz.prog 117 #[.pointer (some ⟨r, 0, none⟩)] w fun e w' => e = .returned (.tuple #[.int .i64 a, .bool true]) ∧ Box w' r 152 (rgC a b c 1 k) ∧ Grew r w w' := by
  have hc : k = 0 ∨ k = 1 ∨ k = 2 := by omega
  rcases hc with rfl | rfl | rfl
  all_goals
    have e0 := bx.cell 0 _ rfl
    have e3 := bx.cell 3 _ rfl
    have e4 := bx.cell 4 _ rfl
    have f3 := bx.thaw 3
    have f4 := bx.thaw 4
    have BX := Lib.hid bx
    clear bx
    go_enter Tryz.func117, Tryz.ntmps117
    go_wp2_with fail
    go_region
    go_wp2
    refine bodyPost_ret (results_tmp2 Tryz.results117 _ _) rfl ⟨rfl, ?_, ?_⟩
    · first
        | exact (BX.out.drew.put 3 (.int .i64 1)).put 4 (.int .i64 0)
        | exact (BX.out.drew.put 3 (.int .i64 1)).put 4 (.int .i64 1)
        | exact (BX.out.drew.put 3 (.int .i64 1)).put 4 (.int .i64 2)
    · exact ((Grew.refl r w).drew.put (.inl rfl) _).put (.inl rfl) _
/-- The numbers of a ring, in their order. -/
def ringL (a b c : Int) (f k : Nat) : List Int := (List.range k).map fun i => if (f + i) % 3 = 0 then a else if (f + i) % 3 = 1 then b else c
theorem ringL_succ (a b c : Int) (f k : Nat) : ringL a b c f (k + 1) = ringL a b c f k ++ [if (f + k) % 3 = 0 then a else if (f + k) % 3 = 1 then b else c] := by simp [ringL, List.range_succ]
theorem moreQ (n0 : Nat) (W : World) (v : Sl) (l : List Int) (h : OwnF qC 1 3 n0 W v l) (hn : n0 ≤ W.heap.size) (hl : l.length ≤ 1000) (z : Int) (ty : TypeId) :
    ∃ (s' : Sl) (W' : World), (Builtin.append_ #[38, 38] ty #[.slice v.a v.n v.c, .slice (some ⟨W.heap.size, 0, none⟩) 1 1]).run Tryz.prog (W.alloc (.cells (qC z) 3)) = .ok (.slice s'.a s'.n s'.c) W' ∧ OwnF qC 1 3 n0 W' s' (l ++ [z]) ∧ Below n0 W W' ∧ W.heap.size ≤ W'.heap.size ∧ ∀ b T' cs, T' ≠ 3 → Box W b T' cs → Box W' b T' cs := by
  have h1 : HasQ (W.alloc (.cells (qC z) 3)) ⟨some ⟨W.heap.size, 0, none⟩, 1, 1⟩ [z] := by
    refine ⟨rfl, Nat.le_refl _, .inr ⟨W.heap.size, 0, rfl, fun i x hx j u hj => ?_⟩⟩
    have hi : i = 0 := by have := (List.getElem?_eq_some_iff.1 hx).1; simp at this; omega
    subst hi
    simp at hx
    subst hx
    have := (Box.fresh W 3 (qC z)).cell j u hj
    simpa using this
  have hb0 : Below W.heap.size W (W.alloc (.cells (qC z) 3)) := (Below.refl _ _).alloc (Nat.le_refl _) _
  obtain ⟨s', W', hr, ho, hb, hs, hk⟩ := copyQ n0 (W.alloc (.cells (qC z) 3)) v l (h.stay hb0) (by simp; omega) (by omega) ⟨some ⟨W.heap.size, 0, none⟩, 1, 1⟩ [z] h1 (by simp) ty
  exact ⟨s', W', hr, ho, ⟨hb.os, hb.tape, hb.output, by have := hb.size; simp at this; omega, fun k hk' => (hb.block k hk').trans (Below.heap_alloc W _ k (by omega))⟩, by simp at hs; omega, fun b T' cs hT bx => hk b T' cs hT (bx.past _)⟩
set_option maxHeartbeats 8000000 in
theorem list_ring0 (a b c : Int) (k : Nat) (hk : k ≤ 3) (w : World) :
    Calls Tryz.prog 116 #[.agg (rgC a b c 0 k)] w fun e w' => ∃ s : Sl, e = .returned (.slice s.a s.n s.c) ∧ OwnQ w.heap.size w' s (ringL a b c 0 k) ∧ Below w.heap.size w w' := by
  have K0 := Lib.hid ((Kn.refl (w := w)).new 152 (rgC a b c 0 k))
  have g3 := K0.out.c (b := w.heap.size) (T := 152) (vs := rgC a b c 0 k) (by simp) 4 _ rfl
  go_enter Tryz.func116, Tryz.ntmps116
  go_wp2
  go_loopw [3, 7] (fun v i wr => ∃ (m : Nat) (so : Sl), v = .slice so.a so.n so.c ∧ i = .int .i64 m ∧ m ≤ k ∧ OwnF qC 1 3 (w.heap.size + 1) wr so (ringL a b c 0 m) ∧ Kn w [(w.heap.size, 152, rgC a b c 0 k)] wr) (fun _ i _ => k - (intOf i).toNat)
  case atStart => exact ⟨0, ⟨none, 0, 0⟩, rfl, rfl, by omega, OwnF.nil _ _ _ _ _, K0.out⟩
  case round =>
    obtain ⟨m, so, rfl, rfl, hm, o0, k0⟩ := hrel
    have O1 := Lib.hid o0
    have K1 := Lib.hid k0
    clear o0 k0 K0 g3
    by_cases hlt : m < k
    · have hlt' : (m : Int) < (k : Int) := by omega
      have zz : w.heap.size + 1 ≤ wr.heap.size := (K1.out.box (b := w.heap.size) (T := 152) (vs := rgC a b c 0 k) (by simp)).lt
      have hrl : (ringL a b c 0 m).length ≤ 1000 := by simp [ringL]; omega
      have key : ∀ z : Int, z = (if (0 + m) % 3 = 0 then a else if (0 + m) % 3 = 1 then b else c) → ∃ (s6 : Sl) (W6 : World), (Builtin.append_ #[38, 38] 38 #[.slice so.a so.n so.c, .slice (some ⟨wr.heap.size, 0, none⟩) 1 1]).run Tryz.prog (wr.alloc (.cells (qC z) 3)) = .ok (.slice s6.a s6.n s6.c) W6 ∧ OwnF qC 1 3 (w.heap.size + 1) W6 s6 (ringL a b c 0 (m + 1)) ∧ Kn w [(w.heap.size, 152, rgC a b c 0 k)] W6 := by
        intro z hz
        obtain ⟨s6, W6, hr6, o6, b6, z6, k6⟩ := moreQ (w.heap.size + 1) wr so _ O1.out zz hrl z 38
        refine ⟨s6, W6, hr6, by rw [ringL_succ, ← hz]; exact o6, K1.out.1.trans (b6.mono (by omega)), fun t ht => ?_⟩
        simp at ht
        subst ht
        exact (K1.out.box (b := w.heap.size) (T := 152) (vs := rgC a b c 0 k) (by simp)).keep b6 (by omega)
      have h0 := K1.out.c (b := w.heap.size) (T := 152) (vs := rgC a b c 0 k) (by simp) 0 _ rfl
      have h1 := K1.out.c (b := w.heap.size) (T := 152) (vs := rgC a b c 0 k) (by simp) 1 _ rfl
      have h2 := K1.out.c (b := w.heap.size) (T := 152) (vs := rgC a b c 0 k) (by simp) 2 _ rfl
      have h3 := K1.out.c (b := w.heap.size) (T := 152) (vs := rgC a b c 0 k) (by simp) 3 _ rfl
      have KEY := Lib.hid key
      clear key
      have hm' : m = 0 ∨ m = 1 ∨ m = 2 := by omega
      rcases hm' with rfl | rfl | rfl
      all_goals
        first
          | obtain ⟨s6, W6, hr6, o6, k6⟩ := KEY.out a rfl
          | obtain ⟨s6, W6, hr6, o6, k6⟩ := KEY.out b rfl
          | obtain ⟨s6, W6, hr6, o6, k6⟩ := KEY.out c rfl
        have O6 := Lib.hid o6
        have K6 := Lib.hid k6
        clear o6 k6 KEY O1
        go_wp2_with (refine wpList_append_run rfl (.tmp 10) (.tmp 19) 38 rfl (.slice so.a so.n so.c) (.slice (some ⟨wr.heap.size, 0, none⟩) 1 1) rfl rfl (.slice s6.a s6.n s6.c) W6 hr6 ?_)
        go_roundw
        case rel => first | exact ⟨1, s6, rfl, rfl, hlt, O6.out, K6.out⟩ | exact ⟨2, s6, rfl, rfl, hlt, O6.out, K6.out⟩ | exact ⟨3, s6, rfl, rfl, hlt, O6.out, K6.out⟩
        case measure => simp [intOf]; omega
    · have hlt' : ¬ (m : Int) < (k : Int) := by omega
      have HJ := Lib.hid (show m = k by omega)
      go_wp2
      go_ret
      refine ⟨so, rfl, ?_, K1.out.1⟩
      rw [← HJ.out]
      exact (O1.out.row (Tp := TyQ) rfl).less (by omega)
set_option maxHeartbeats 8000000 in
theorem list_ring1 (a b c : Int) (k : Nat) (hk : k ≤ 3) (w : World) :
    Calls Tryz.prog 116 #[.agg (rgC a b c 1 k)] w fun e w' => ∃ s : Sl, e = .returned (.slice s.a s.n s.c) ∧ OwnQ w.heap.size w' s (ringL a b c 1 k) ∧ Below w.heap.size w w' := by
  have K0 := Lib.hid ((Kn.refl (w := w)).new 152 (rgC a b c 1 k))
  have g3 := K0.out.c (b := w.heap.size) (T := 152) (vs := rgC a b c 1 k) (by simp) 4 _ rfl
  go_enter Tryz.func116, Tryz.ntmps116
  go_wp2
  go_loopw [3, 7] (fun v i wr => ∃ (m : Nat) (so : Sl), v = .slice so.a so.n so.c ∧ i = .int .i64 m ∧ m ≤ k ∧ OwnF qC 1 3 (w.heap.size + 1) wr so (ringL a b c 1 m) ∧ Kn w [(w.heap.size, 152, rgC a b c 1 k)] wr) (fun _ i _ => k - (intOf i).toNat)
  case atStart => exact ⟨0, ⟨none, 0, 0⟩, rfl, rfl, by omega, OwnF.nil _ _ _ _ _, K0.out⟩
  case round =>
    obtain ⟨m, so, rfl, rfl, hm, o0, k0⟩ := hrel
    have O1 := Lib.hid o0
    have K1 := Lib.hid k0
    clear o0 k0 K0 g3
    by_cases hlt : m < k
    · have hlt' : (m : Int) < (k : Int) := by omega
      have zz : w.heap.size + 1 ≤ wr.heap.size := (K1.out.box (b := w.heap.size) (T := 152) (vs := rgC a b c 1 k) (by simp)).lt
      have hrl : (ringL a b c 1 m).length ≤ 1000 := by simp [ringL]; omega
      have key : ∀ z : Int, z = (if (1 + m) % 3 = 0 then a else if (1 + m) % 3 = 1 then b else c) → ∃ (s6 : Sl) (W6 : World), (Builtin.append_ #[38, 38] 38 #[.slice so.a so.n so.c, .slice (some ⟨wr.heap.size, 0, none⟩) 1 1]).run Tryz.prog (wr.alloc (.cells (qC z) 3)) = .ok (.slice s6.a s6.n s6.c) W6 ∧ OwnF qC 1 3 (w.heap.size + 1) W6 s6 (ringL a b c 1 (m + 1)) ∧ Kn w [(w.heap.size, 152, rgC a b c 1 k)] W6 := by
        intro z hz
        obtain ⟨s6, W6, hr6, o6, b6, z6, k6⟩ := moreQ (w.heap.size + 1) wr so _ O1.out zz hrl z 38
        refine ⟨s6, W6, hr6, by rw [ringL_succ, ← hz]; exact o6, K1.out.1.trans (b6.mono (by omega)), fun t ht => ?_⟩
        simp at ht
        subst ht
        exact (K1.out.box (b := w.heap.size) (T := 152) (vs := rgC a b c 1 k) (by simp)).keep b6 (by omega)
      have h0 := K1.out.c (b := w.heap.size) (T := 152) (vs := rgC a b c 1 k) (by simp) 0 _ rfl
      have h1 := K1.out.c (b := w.heap.size) (T := 152) (vs := rgC a b c 1 k) (by simp) 1 _ rfl
      have h2 := K1.out.c (b := w.heap.size) (T := 152) (vs := rgC a b c 1 k) (by simp) 2 _ rfl
      have h3 := K1.out.c (b := w.heap.size) (T := 152) (vs := rgC a b c 1 k) (by simp) 3 _ rfl
      have KEY := Lib.hid key
      clear key
      have hm' : m = 0 ∨ m = 1 ∨ m = 2 := by omega
      rcases hm' with rfl | rfl | rfl
      all_goals
        first
          | obtain ⟨s6, W6, hr6, o6, k6⟩ := KEY.out a rfl
          | obtain ⟨s6, W6, hr6, o6, k6⟩ := KEY.out b rfl
          | obtain ⟨s6, W6, hr6, o6, k6⟩ := KEY.out c rfl
        have O6 := Lib.hid o6
        have K6 := Lib.hid k6
        clear o6 k6 KEY O1
        go_wp2_with (refine wpList_append_run rfl (.tmp 10) (.tmp 19) 38 rfl (.slice so.a so.n so.c) (.slice (some ⟨wr.heap.size, 0, none⟩) 1 1) rfl rfl (.slice s6.a s6.n s6.c) W6 hr6 ?_)
        go_roundw
        case rel => first | exact ⟨1, s6, rfl, rfl, hlt, O6.out, K6.out⟩ | exact ⟨2, s6, rfl, rfl, hlt, O6.out, K6.out⟩ | exact ⟨3, s6, rfl, rfl, hlt, O6.out, K6.out⟩
        case measure => simp [intOf]; omega
    · have hlt' : ¬ (m : Int) < (k : Int) := by omega
      have HJ := Lib.hid (show m = k by omega)
      go_wp2
      go_ret
      refine ⟨so, rfl, ?_, K1.out.1⟩
      rw [← HJ.out]
      exact (O1.out.row (Tp := TyQ) rfl).less (by omega)
end Go.Proofs.YtbopficnajdaoaaGreatDoor

namespace Go.Proofs.YtbopficnajdaoaaGreatDoor
open Go.RowKit
set_option maxRecDepth 100000
set_option linter.unusedVariables false

/-- A deed: its table, its call, its runner, its right, its thing. -/
abbrev deedC (s : Sl) (c : C5) (pp : Value) (r : R5) (po : Value) : Array Value := #[.slice s.a s.n s.c, .int .i64 c.k, .int .i64 c.r, .int .i64 c.a, .int .i64 c.b, .int .i64 c.n, pp, .int .i64 r.t, .int .i64 r.v, .bool r.r, .bool r.w, .bool r.k, po]
abbrev ptr (g j : Nat) : Value := .pointer (some ⟨g, j * 8, none⟩)
/-- A box that is none of a table's: by its type, or by its size. -/
def Off (T : TypeId) (cs : Array Value) : Prop := ¬ TyA T ∨ T = 34 ∧ cs.size = 5
/-- What a deed leaves. -/
def DeedPost (n0 : Nat) (w : World) (s : Sl) (ts : List Tr) (ans : Int) (e : Ending) (w' : World) : Prop :=
  e = .returned (.int .i64 ans) ∧ TaW n0 w' s ts ∧ Below n0 w w' ∧ w.heap.size ≤ w'.heap.size ∧ ∀ b T cs, b < w.heap.size → Off T cs → Box w b T cs → Box w' b T cs
theorem tyT : TyA 40 := .inl rfl
theorem Off.t {T : TypeId} {cs : Array Value} (h : Off T cs) : T ≠ 40 := by
  intro e; subst e
  rcases h with h | ⟨h, -⟩
  · exact h (.inl rfl)
  · revert h; decide
theorem Off.row {W : World} {b b2 : Nat} {T TB : TypeId} {cs cur : Array Value} (h : Off T cs) (kx : Box W b T cs) (bx : Box W b2 TB cur) (hTB : TyR TB) (hz : 20 ≤ cur.size) : b ≠ b2 := by
  intro e; subst e
  have e := Option.some.inj ((show W.heap[b]? = some (Obj.cells cs T) from kx).symm.trans (show W.heap[b]? = some (Obj.cells cur TB) from bx))
  simp only [Obj.cells.injEq] at e
  obtain ⟨rfl, rfl, -⟩ := e
  rcases h with h | ⟨-, h⟩
  · exact h (.inr (.inl hTB))
  · omega
/-- The row of four rights is of twenty cells at least. -/
theorem rowBig {n0 : Nat} {W : World} {sl : Sl} {l : List R5} {b : Nat} {TB : TypeId} {cur : Array Value} (h : OwnR n0 W sl l) (h4 : l.length = 4) (hb : sl.a = some ⟨b, 0, none⟩) (bx : Box W b TB cur) : 20 ≤ cur.size := by
  obtain ⟨b', T', cur', hT', e', hb', bx', h5⟩ := h.form (fun e => by rw [e] at h4; simp at h4)
  rw [hb] at e'
  cases e'
  have e := Option.some.inj ((show W.heap[b]? = some (Obj.cells cur TB) from bx).symm.trans (show W.heap[b]? = some (Obj.cells cur' T') from bx'))
  simp only [Obj.cells.injEq] at e
  obtain ⟨rfl, rfl, -⟩ := e
  have h6 := congrArg List.length h5
  rw [List.length_take, flat_len szR, h4, Array.length_toList] at h6
  omega
theorem nD : ¬ TyA 88 := by unfold TyA TyR TyQ; decide
theorem deed_box (w : World) (cs : Array Value) : Kn w [(w.heap.size, 88, cs)] (w.alloc (.cells cs 88)) := (Kn.refl (w := w)).new _ _
set_option maxHeartbeats 2000000 in
theorem deedRead (n0 : Nat) (s : Sl) (ts : List Tr) (c : C5) (pp : Value) (r : R5) (g j : Nat) (t : Tr) (w : World) (hT : TaW n0 w s ts) (hn : n0 ≤ w.heap.size) (hs : s.a = some ⟨g, 0, none⟩) (ht : ts[j]? = some t) :
    Calls Tryz.prog 90 #[.agg (deedC s c pp r (ptr g j))] w (DeedPost n0 w s ts t.1.num) := by
  have K := deed_box w (deedC s c pp r (ptr g j))
  have T1 := Lib.hid (hT.stay K.1)
  have d4 := stayCell (hT.at hs ht 4 _ rfl) K.1
  have k12 := K.c (b := w.heap.size) (T := 88) (vs := deedC s c pp r (ptr g j)) (by simp) 12 _ rfl
  have HK := Lib.hid K
  clear K hT
  unfold DeedPost
  go_enter Tryz.func90, Tryz.ntmps90
  go_wp2
  go_ret
  exact ⟨rfl, T1.out, HK.out.1.mono hn, HK.out.1.size, fun b T cs _ _ bx => bx.stay HK.out.1⟩
set_option maxHeartbeats 2000000 in
theorem deedWrite (n0 : Nat) (s : Sl) (ts : List Tr) (c : C5) (pp : Value) (r : R5) (g j : Nat) (t : Tr) (w : World) (hT : TaW n0 w s ts) (hn : n0 ≤ w.heap.size) (hs : s.a = some ⟨g, 0, none⟩) (ht : ts[j]? = some t) :
    Calls Tryz.prog 91 #[.agg (deedC s c pp r (ptr g j))] w (DeedPost n0 w s (ts.set j ({ t.1 with num := c.n }, t.2)) 0) := by
  obtain ⟨Y, hY⟩ : ∃ Y, w.alloc (.cells (deedC s c pp r (ptr g j)) 88) = Y := ⟨_, rfl⟩
  have K := deed_box w (deedC s c pp r (ptr g j))
  rw [hY] at K
  have t1 := hT.stay K.1
  obtain ⟨-, hg0, hgl, cur, bx⟩ := t1.1.blk hs
  have d4 := t1.at hs ht 4 _ rfl
  have f4 := t1.1.thaw hs (j * 8 + 4)
  have k5 := K.c (b := w.heap.size) (T := 88) (vs := deedC s c pp r (ptr g j)) (by simp) 5 _ rfl
  have k12 := K.c (b := w.heap.size) (T := 88) (vs := deedC s c pp r (ptr g j)) (by simp) 12 _ rfl
  have T2 := Lib.hid (t1.num hs ht c.n)
  have BX := Lib.hid bx
  have HK := Lib.hid K
  have HG := Lib.hid hg0
  clear K hT t1 bx
  unfold DeedPost
  go_enter Tryz.func91, Tryz.ntmps91
  go_wp2
  go_ret
  refine ⟨rfl, T2.out, (HK.out.1.mono hn).setCell (p := ⟨g, j * 8 + 4, none⟩) HG.out _, by have := HK.out.1.size; simpa [World.setCell] using this, fun b T cs _ hT kx => ?_⟩
  have kx' := kx.stay HK.out.1
  exact kx'.other (p := ⟨g, j * 8 + 4, none⟩) (Box.ne kx' BX.out hT.t) _
theorem rowFour {n0 : Nat} {W : World} {sl : Sl} {l : List R5} (h : OwnR n0 W sl l) (h4 : l.length = 4) : ∃ (b : Nat) (T : TypeId) (cur : Array Value), TyR T ∧ sl.a = some ⟨b, 0, none⟩ ∧ n0 ≤ b ∧ Box W b T cur ∧ sl.n = 4 := by
  obtain ⟨b, T, cur, hT, e, hb, bx, -⟩ := h.form (fun e => by rw [e] at h4; simp at h4)
  exact ⟨b, T, cur, hT, e, hb, bx, by rw [h.1, h4]⟩
/-- What a deed leaves, by what it stored. -/
theorem deed_post {n0 : Nat} {w V V' : World} {s : Sl} {ts : List Tr} {ans : Int} (hT : TaW n0 V' s ts) (hb : Below n0 w V) (hz : w.heap.size ≤ V.heap.size) (hb2 : Below n0 V V') (k : ∀ b T cs, b < w.heap.size → Off T cs → Box w b T cs → Box V b T cs) (k2 : ∀ b T cs, Off T cs → Box V b T cs → Box V' b T cs) : DeedPost n0 w s ts ans (.returned (.int .i64 ans)) V' :=
  ⟨rfl, hT, hb.trans hb2, Nat.le_trans hz hb2.size, fun b T cs hlt hn bx => k2 b T cs hn (k b T cs hlt hn bx)⟩
theorem tyR {T : TypeId} (h : TyR T) : TyA T := .inr (.inl h)
set_option maxHeartbeats 4000000 in
theorem deedStore (n0 : Nat) (s : Sl) (ts : List Tr) (ck cr ca : Int) (jb : Nat) (cn : Int) (r : R5) (g jr jo jn : Nat) (tc uc : T8) (ta ua ta2 : Nat) (tcp ucp : Nat) (tq uq : Sl) (w : World) (hT : TaW n0 w s ts) (hn : n0 ≤ w.heap.size) (hs : s.a = some ⟨g, 0, none⟩) (ht : ts[jr]? = some (tc, ⟨some ⟨ta, 0, none⟩, 4, tcp⟩, tq)) (hu : ts[jo]? = some (uc, ⟨some ⟨ua, 0, none⟩, 4, ucp⟩, uq)) (x y : R5) (hx : tc.slots[jb]? = some x) (hy : uc.slots[jn]? = some y) (hjb : jb < 4) (hjn : jn < 4) (hrem : Int.tmod cn 4 = (jn : Int)) :
    Calls Tryz.prog 94 #[.agg (deedC s ⟨ck, cr, ca, (jb : Int), cn⟩ (ptr g jr) r (ptr g jo))] w (DeedPost n0 w s (ts.set jo ({ uc with slots := uc.slots.set jn x }, ⟨some ⟨ua, 0, none⟩, 4, ucp⟩, uq)) 0) := by
  obtain ⟨Y, hY⟩ : ∃ Y, w.alloc (.cells (deedC s ⟨ck, cr, ca, (jb : Int), cn⟩ (ptr g jr) r (ptr g jo)) 88) = Y := ⟨_, rfl⟩
  have K := deed_box w (deedC s ⟨ck, cr, ca, (jb : Int), cn⟩ (ptr g jr) r (ptr g jo))
  rw [hY] at K
  have t1 := hT.stay K.1
  obtain ⟨-, hg0, hgl, cur, bx⟩ := t1.1.blk hs
  have d5 := t1.at hs ht 5 _ rfl
  have u5 := t1.at hs hu 5 _ rfl
  have ra := (t1.get ht).1.at szR rfl hx
  have ra0 := ra 0 _ rfl
  rw [Nat.add_zero] at ra0
  have ra1 := ra 1 _ rfl
  have ra2 := ra 2 _ rfl
  have ra3 := ra 3 _ rfl
  have ra4 := ra 4 _ rfl
  have rb := (t1.get hu).1.at szR rfl hy
  have rb0 := rb 0 _ rfl
  rw [Nat.add_zero] at rb0
  have rb1 := rb 1 _ rfl
  have rb2 := rb 2 _ rfl
  have rb3 := rb 3 _ rfl
  have rb4 := rb 4 _ rfl
  obtain ⟨b2, TB, cur2, hTB, e2, hb2, bx2, -⟩ := rowFour (t1.get hu).1 (show uc.slots.length = 4 by rw [← (t1.get hu).1.1])
  cases e2
  have HZ2 := Lib.hid (rowBig (t1.get hu).1 (show uc.slots.length = 4 by rw [← (t1.get hu).1.1]) rfl bx2)
  have rf0 := bx2.thaw (jn * 5)
  have rf1 := bx2.thaw (jn * 5 + 1)
  have rf2 := bx2.thaw (jn * 5 + 2)
  have rf3 := bx2.thaw (jn * 5 + 3)
  have rf4 := bx2.thaw (jn * 5 + 4)
  have k0 := K.c (b := w.heap.size) (T := 88) (vs := deedC s ⟨ck, cr, ca, (jb : Int), cn⟩ (ptr g jr) r (ptr g jo)) (by simp) 0 _ rfl
  have k1 := K.c (b := w.heap.size) (T := 88) (vs := deedC s ⟨ck, cr, ca, (jb : Int), cn⟩ (ptr g jr) r (ptr g jo)) (by simp) 1 _ rfl
  have k2 := K.c (b := w.heap.size) (T := 88) (vs := deedC s ⟨ck, cr, ca, (jb : Int), cn⟩ (ptr g jr) r (ptr g jo)) (by simp) 2 _ rfl
  have k3 := K.c (b := w.heap.size) (T := 88) (vs := deedC s ⟨ck, cr, ca, (jb : Int), cn⟩ (ptr g jr) r (ptr g jo)) (by simp) 3 _ rfl
  have k4 := K.c (b := w.heap.size) (T := 88) (vs := deedC s ⟨ck, cr, ca, (jb : Int), cn⟩ (ptr g jr) r (ptr g jo)) (by simp) 4 _ rfl
  have k5 := K.c (b := w.heap.size) (T := 88) (vs := deedC s ⟨ck, cr, ca, (jb : Int), cn⟩ (ptr g jr) r (ptr g jo)) (by simp) 5 _ rfl
  have k6 := K.c (b := w.heap.size) (T := 88) (vs := deedC s ⟨ck, cr, ca, (jb : Int), cn⟩ (ptr g jr) r (ptr g jo)) (by simp) 6 _ rfl
  have k12 := K.c (b := w.heap.size) (T := 88) (vs := deedC s ⟨ck, cr, ca, (jb : Int), cn⟩ (ptr g jr) r (ptr g jo)) (by simp) 12 _ rfl
  have T2 := Lib.hid (fun W (h : TaW n0 W s ts) => h.slot hu (b := ua) rfl (k := jn) (by have := (List.getElem?_eq_some_iff.1 hy).1; exact this) x)
  have T1 := Lib.hid t1
  have BX := Lib.hid bx2
  have HB2 := Lib.hid hb2
  have HTB := Lib.hid hTB
  have HK := Lib.hid K
  have hjb' : (jb : Int) < 4 := by omega
  have hjn' : (jn : Int) < 4 := by omega
  clear K hT t1 bx bx2 ra rb hb2 hx hy ht hu hTB
  go_enter Tryz.func94, Tryz.ntmps94
  go_wp2_with fail
  go_region
  all_goals
    go_wp2
    go_ret
    refine deed_post (V := Y) (V' := set5 Y.drew ua (jn * 5) x) (T2.out _ T1.out.drew) (HK.out.1.mono hn) HK.out.1.size (((Below.refl _ _).drew).trans (set5_below HB2.out x)) (fun b T cs _ _ kx => kx.stay HK.out.1) (fun b T cs hT kx => set5_other (W := Y.drew) kx (hT.row kx BX.out HTB.out HZ2.out) x)
end Go.Proofs.YtbopficnajdaoaaGreatDoor

namespace Go.Proofs.YtbopficnajdaoaaGreatDoor
open Go.RowKit
set_option maxRecDepth 100000
set_option linter.unusedVariables false

theorem TaW.grewN {n0 rb : Nat} {W W' : World} {s : Sl} {ts : List Tr} (h : TaW n0 W s ts) {T : TypeId} {cs : Array Value} (hb : Box W rb T cs) (hT : ¬ TyA T) (g : Grew rb W W') : TaW n0 W' s ts :=
  h.keep fun b T' cs' _ bx hA => bx.grew g (Box.ne bx hb (fun e => hT (e ▸ hA)))
theorem nG : ¬ TyA 152 := by unfold TyA TyR TyQ; decide
theorem ring_sent (q : List Int) (n : Int) (hq : q.length < 3) : ringL (if q.length = 0 then n else p0 q) (if q.length = 1 then n else p1 q) (if q.length = 2 then n else p2 q) 0 (q.length + 1) = q ++ [n] := by
  match q, hq with
  | [], _ => rfl
  | [a], _ => rfl
  | [a, b], _ => rfl
  | a :: b :: c :: d, h => simp at h; omega
theorem ring_taken (q : List Int) (hq : q.length ≤ 3) (h0 : 0 < q.length) : ringL (p0 q) (p1 q) (p2 q) 1 (q.length - 1) = q.tail := by
  match q, hq, h0 with
  | [a], _, _ => rfl
  | [a, b], _, _ => rfl
  | [a, b, c], _, _ => rfl
  | a :: b :: c :: d :: e, h, _ => simp at h
theorem p0_head {q : List Int} (h0 : 0 < q.length) : p0 q = q.head?.getD (-4) := by
  match q, h0 with
  | a :: b, _ => rfl
set_option maxHeartbeats 4000000 in
theorem deedSend (n0 : Nat) (s : Sl) (ts : List Tr) (c : C5) (pp : Value) (r : R5) (g jo : Nat) (uc : T8) (us uq : Sl) (w : World) (hT : TaW n0 w s ts) (hn : n0 ≤ w.heap.size) (hs : s.a = some ⟨g, 0, none⟩) (hu : ts[jo]? = some (uc, us, uq)) (hl : uc.queue.length < 3) :
    Calls Tryz.prog 95 #[.agg (deedC s c pp r (ptr g jo))] w (fun e w' => ∃ q : Sl, DeedPost n0 w s (ts.set jo ({ uc with queue := uc.queue ++ [c.n] }, us, q)) 0 e w') := by
  unfold DeedPost
  obtain ⟨Y, hY⟩ : ∃ Y, w.alloc (.cells (deedC s c pp r (ptr g jo)) 88) = Y := ⟨_, rfl⟩
  have K := deed_box w (deedC s c pp r (ptr g jo))
  rw [hY] at K
  have t1 := hT.stay K.1
  have u6 := t1.at hs hu 6 _ rfl
  have hQ := Lib.hid (OwnQ.has (t1.get hu).2)
  have k5 := K.c (b := w.heap.size) (T := 88) (vs := deedC s c pp r (ptr g jo)) (by simp) 5 _ rfl
  have k12 := K.c (b := w.heap.size) (T := 88) (vs := deedC s c pp r (ptr g jo)) (by simp) 12 _ rfl
  have T1 := Lib.hid t1
  have HK := Lib.hid K
  have HU := Lib.hid hu
  have HS := Lib.hid hs
  have HL := Lib.hid hl
  clear K hT t1 hu hs hl
  go_enter Tryz.func95, Tryz.ntmps95
  go_wp2_with fail
  refine (ringOf_any uc.queue uq Y hQ.out (by have := HL.out; omega)).mono ?_
  rintro e y1 ⟨rfl, hb⟩
  obtain ⟨M, hM⟩ : ∃ M : Int, (uc.queue.length : Int) = M := ⟨_, rfl⟩
  have HM := Lib.hid hM
  rw [hM]
  clear hM
  obtain ⟨Y2, hY2⟩ : ∃ Y2, y1.alloc (.cells (rgC (p0 uc.queue) (p1 uc.queue) (p2 uc.queue) 0 M) 152) = Y2 := ⟨_, rfl⟩
  have hb2 : Below Y.heap.size Y Y2 := hY2 ▸ hb.alloc hb.size _
  have K2 := Lib.hid (HK.out.stay hb2)
  have T2 := Lib.hid (T1.out.stay hb2)
  have B2 := Lib.hid (show Box Y2 y1.heap.size 152 (rgC (p0 uc.queue) (p1 uc.queue) (p2 uc.queue) 0 M) from hY2 ▸ Box.fresh _ _ _)
  have zz := hb.size
  have zY := HK.out.1.size
  clear hb hb2 HK T1 k5 k12 u6 hQ
  have k5 := K2.out.c (b := w.heap.size) (T := 88) (vs := deedC s c pp r (ptr g jo)) (by simp) 5 _ rfl
  obtain ⟨m, rfl⟩ : ∃ m : Nat, M = m := ⟨uc.queue.length, HM.out.symm⟩
  go_wp2_with fail
  refine (put_any y1.heap.size (p0 uc.queue) (p1 uc.queue) (p2 uc.queue) m (by have := HL.out; have := HM.out; omega) c.n Y2 B2.out).mono ?_
  rintro e y3 ⟨rfl, bx3, g3⟩
  obtain ⟨a0, ha0⟩ : ∃ a0, (if m = 0 then c.n else p0 uc.queue) = a0 := ⟨_, rfl⟩
  obtain ⟨a1, ha1⟩ : ∃ a1, (if m = 1 then c.n else p1 uc.queue) = a1 := ⟨_, rfl⟩
  obtain ⟨a2, ha2⟩ : ∃ a2, (if m = 2 then c.n else p2 uc.queue) = a2 := ⟨_, rfl⟩
  obtain ⟨m1, hm1⟩ : ∃ m1 : Nat, m + 1 = m1 := ⟨_, rfl⟩
  rw [ha0, ha1, ha2, show (m : Int) + 1 = (m1 : Int) by omega] at bx3
  have HQN := Lib.hid (show ringL a0 a1 a2 0 m1 = uc.queue ++ [c.n] by
    have h1 : uc.queue.length = m := by have := HM.out; omega
    rw [← ha0, ← ha1, ← ha2, ← hm1, ← h1]; exact ring_sent uc.queue c.n HL.out)
  have hm3 : m1 ≤ 3 := by have := HL.out; have := HM.out; omega
  clear ha0 ha1 ha2
  have KEEP := Lib.hid (show ∀ b T cs, b < w.heap.size → Box w b T cs → Box y3 b T cs from fun b T cs hlt kx => (kx.stay K2.out.1).grew g3 (by have := (K2.out.box (b := w.heap.size) (T := 88) (vs := deedC s c pp r (ptr g jo)) (by simp)).lt; omega))
  have G3 := Lib.hid g3
  have B3 := Lib.hid bx3
  have T3 := Lib.hid (T2.out.grewN B2.out nG g3)
  have D3 := Lib.hid ((K2.out.box (b := w.heap.size) (T := 88) (vs := deedC s c pp r (ptr g jo)) (by simp)).grew g3 (by have := (K2.out.box (b := w.heap.size) (T := 88) (vs := deedC s c pp r (ptr g jo)) (by simp)).lt; exact Box.ne (K2.out.box (b := w.heap.size) (T := 88) (vs := deedC s c pp r (ptr g jo)) (by simp)) B2.out (by decide)))
  have k12 := D3.out.cell 12 _ rfl
  have q0 := B3.out.cell 0 _ rfl
  have q1 := B3.out.cell 1 _ rfl
  have q2 := B3.out.cell 2 _ rfl
  have q3 := B3.out.cell 3 _ rfl
  have q4 := B3.out.cell 4 _ rfl
  have v12 : y3.drew.cell? ⟨w.heap.size, 12, none⟩ = some (ptr g jo) := k12
  have v0 : y3.drew.cell? ⟨y1.heap.size, 0, none⟩ = some (.int .i64 (a0)) := q0
  have v1 : y3.drew.cell? ⟨y1.heap.size, 1, none⟩ = some (.int .i64 (a1)) := q1
  have v2 : y3.drew.cell? ⟨y1.heap.size, 2, none⟩ = some (.int .i64 (a2)) := q2
  have v3 : y3.drew.cell? ⟨y1.heap.size, 3, none⟩ = some (.int .i64 0) := q3
  have v4 : y3.drew.cell? ⟨y1.heap.size, 4, none⟩ = some (.int .i64 ((m1 : Int))) := q4
  have HBL := Lib.hid (show Below n0 w y3 from ((K2.out.1.mono hn).trans (g3.below (by omega) (by have := (K2.out.box (b := w.heap.size) (T := 88) (vs := deedC s c pp r (ptr g jo)) (by simp)).lt; omega))))
  clear g3 bx3 K2 T2
  go_wp2_with fail
  go_cut [] (fun wx => ∃ (y5 : World) (q : Sl), OwnQ y3.heap.size y5 q (uc.queue ++ [c.n]) ∧ Below y3.heap.size y3 y5 ∧ wx = y5.setCell ⟨g, jo * 8 + 6, none⟩ (.slice q.a q.n q.c))
  case first =>
    go_region_with (go_at_call 116; refine (list_ring0 a0 a1 a2 m1 hm3 _).mono ?_; rintro e y5 ⟨s5, rfl, oq, hb5⟩; have k12' := stayCell v12 hb5; have u6' := ((T3.out.drew).stay hb5).at HS.out HU.out 6 _ rfl; have f6' := ((T3.out.drew).stay hb5).1.thaw HS.out (jo * 8 + 6); have OQ := Lib.hid oq; have HB5 := Lib.hid hb5; clear oq hb5)
    all_goals
      go_wp2_with fail
      go_meet
      exact ⟨_, _, by rw [← HQN.out]; exact OQ.out, ((Below.refl y3.heap.size y3).drew).trans HB5.out, rfl⟩
  case rest =>
    obtain ⟨y5, q, oq, hb5, hwc⟩ := hcut
    have t5 := T3.out.stay hb5
    obtain ⟨-, hg0, hgl, curg, bxg⟩ := t5.1.blk HS.out
    have tF := t5.queue HS.out HU.out (uc.queue ++ [c.n]) q (oq.less (by have := HBL.out.size; omega)) (fun j b hj hne => ((RowF.apart (T3.out.get hj).2 oq (Nat.le_refl _))).symm)
    rw [← hwc] at tF
    have TF := Lib.hid tF
    have BF := Lib.hid (show Below n0 w wc from hwc ▸ ((HBL.out.trans (hb5.mono (by have := HBL.out.size; omega))).setCell (p := ⟨g, jo * 8 + 6, none⟩) hg0 _))
    have ZF := Lib.hid (show w.heap.size ≤ wc.heap.size by have h1 := HBL.out.size; have h2 := hb5.size; rw [hwc]; simpa [World.setCell] using Nat.le_trans h1 h2)
    have KP := Lib.hid (show ∀ b T cs, b < w.heap.size → Off T cs → Box w b T cs → Box wc b T cs from fun b T cs hlt hN kx => by
      have h3 := KEEP.out b T cs hlt kx
      rw [hwc]
      exact (h3.stay hb5).other (p := ⟨g, jo * 8 + 6, none⟩) (Box.ne (h3.stay hb5) bxg hN.t) _)
    clear tF t5 oq hb5 hwc bxg
    go_wp2
    go_ret
    exact ⟨rfl, ⟨q, TF.out⟩, BF.out, ZF.out, KP.out⟩
set_option maxHeartbeats 4000000 in
theorem deedFull (n0 : Nat) (s : Sl) (ts : List Tr) (c : C5) (pp : Value) (r : R5) (g jo : Nat) (uc : T8) (us uq : Sl) (w : World) (hT : TaW n0 w s ts) (hn : n0 ≤ w.heap.size) (hs : s.a = some ⟨g, 0, none⟩) (hu : ts[jo]? = some (uc, us, uq)) (hl : uc.queue.length = 3) :
    Calls Tryz.prog 95 #[.agg (deedC s c pp r (ptr g jo))] w (DeedPost n0 w s ts (-4)) := by
  unfold DeedPost
  obtain ⟨Y, hY⟩ : ∃ Y, w.alloc (.cells (deedC s c pp r (ptr g jo)) 88) = Y := ⟨_, rfl⟩
  have K := deed_box w (deedC s c pp r (ptr g jo))
  rw [hY] at K
  have t1 := hT.stay K.1
  have u6 := t1.at hs hu 6 _ rfl
  have hQ := Lib.hid (OwnQ.has (t1.get hu).2)
  have k5 := K.c (b := w.heap.size) (T := 88) (vs := deedC s c pp r (ptr g jo)) (by simp) 5 _ rfl
  have k12 := K.c (b := w.heap.size) (T := 88) (vs := deedC s c pp r (ptr g jo)) (by simp) 12 _ rfl
  have T1 := Lib.hid t1
  have HK := Lib.hid K
  have HU := Lib.hid hu
  have HS := Lib.hid hs
  have HL := Lib.hid hl
  clear K hT t1 hu hs hl
  go_enter Tryz.func95, Tryz.ntmps95
  go_wp2_with fail
  refine (ringOf_any uc.queue uq Y hQ.out (by have := HL.out; omega)).mono ?_
  rintro e y1 ⟨rfl, hb⟩
  obtain ⟨M, hM⟩ : ∃ M : Int, (uc.queue.length : Int) = M := ⟨_, rfl⟩
  have HM := Lib.hid hM
  rw [hM]
  clear hM
  obtain ⟨Y2, hY2⟩ : ∃ Y2, y1.alloc (.cells (rgC (p0 uc.queue) (p1 uc.queue) (p2 uc.queue) 0 M) 152) = Y2 := ⟨_, rfl⟩
  have hb2 : Below Y.heap.size Y Y2 := hY2 ▸ hb.alloc hb.size _
  have K2 := Lib.hid (HK.out.stay hb2)
  have T2 := Lib.hid (T1.out.stay hb2)
  have B2 := Lib.hid (show Box Y2 y1.heap.size 152 (rgC (p0 uc.queue) (p1 uc.queue) (p2 uc.queue) 0 M) from hY2 ▸ Box.fresh _ _ _)
  have zz := hb.size
  have zY := HK.out.1.size
  clear hb hb2 HK T1 k5 k12 u6 hQ
  have k5 := K2.out.c (b := w.heap.size) (T := 88) (vs := deedC s c pp r (ptr g jo)) (by simp) 5 _ rfl
  have e3 : M = 3 := by have := HL.out; have := HM.out; omega
  subst e3
  go_wp2_with fail
  refine (put_full y1.heap.size (p0 uc.queue) (p1 uc.queue) (p2 uc.queue) 0 c.n Y2 B2.out).mono ?_
  rintro e y3 ⟨rfl, rfl⟩
  go_wp2
  go_ret
  exact ⟨rfl, T2.out, K2.out.1.mono hn, K2.out.1.size, fun b T cs _ _ kx => kx.stay K2.out.1⟩
set_option maxHeartbeats 4000000 in
theorem deedTake (n0 : Nat) (s : Sl) (ts : List Tr) (c : C5) (pp : Value) (r : R5) (g jo : Nat) (uc : T8) (us uq : Sl) (w : World) (hT : TaW n0 w s ts) (hn : n0 ≤ w.heap.size) (hs : s.a = some ⟨g, 0, none⟩) (hu : ts[jo]? = some (uc, us, uq)) (hl : 0 < uc.queue.length ∧ uc.queue.length ≤ 3) :
    Calls Tryz.prog 96 #[.agg (deedC s c pp r (ptr g jo))] w (fun e w' => ∃ q : Sl, DeedPost n0 w s (ts.set jo ({ uc with queue := uc.queue.tail }, us, q)) (p0 uc.queue) e w') := by
  unfold DeedPost
  obtain ⟨Y, hY⟩ : ∃ Y, w.alloc (.cells (deedC s c pp r (ptr g jo)) 88) = Y := ⟨_, rfl⟩
  have K := deed_box w (deedC s c pp r (ptr g jo))
  rw [hY] at K
  have t1 := hT.stay K.1
  have u6 := t1.at hs hu 6 _ rfl
  have hQ := Lib.hid (OwnQ.has (t1.get hu).2)
  have k5 := K.c (b := w.heap.size) (T := 88) (vs := deedC s c pp r (ptr g jo)) (by simp) 5 _ rfl
  have k12 := K.c (b := w.heap.size) (T := 88) (vs := deedC s c pp r (ptr g jo)) (by simp) 12 _ rfl
  have T1 := Lib.hid t1
  have HK := Lib.hid K
  have HU := Lib.hid hu
  have HS := Lib.hid hs
  have HL := Lib.hid hl
  clear K hT t1 hu hs hl
  go_enter Tryz.func96, Tryz.ntmps96
  go_wp2_with fail
  refine (ringOf_any uc.queue uq Y hQ.out (by have := HL.out; omega)).mono ?_
  rintro e y1 ⟨rfl, hb⟩
  obtain ⟨M, hM⟩ : ∃ M : Int, (uc.queue.length : Int) = M := ⟨_, rfl⟩
  have HM := Lib.hid hM
  rw [hM]
  clear hM
  obtain ⟨Y2, hY2⟩ : ∃ Y2, y1.alloc (.cells (rgC (p0 uc.queue) (p1 uc.queue) (p2 uc.queue) 0 M) 152) = Y2 := ⟨_, rfl⟩
  have hb2 : Below Y.heap.size Y Y2 := hY2 ▸ hb.alloc hb.size _
  have K2 := Lib.hid (HK.out.stay hb2)
  have T2 := Lib.hid (T1.out.stay hb2)
  have B2 := Lib.hid (show Box Y2 y1.heap.size 152 (rgC (p0 uc.queue) (p1 uc.queue) (p2 uc.queue) 0 M) from hY2 ▸ Box.fresh _ _ _)
  have zz := hb.size
  have zY := HK.out.1.size
  clear hb hb2 HK T1 k5 k12 u6 hQ
  have k5 := K2.out.c (b := w.heap.size) (T := 88) (vs := deedC s c pp r (ptr g jo)) (by simp) 5 _ rfl
  obtain ⟨m, rfl⟩ : ∃ m : Nat, M = (m : Int) + 1 := ⟨uc.queue.length - 1, by have := HL.out; have := HM.out; omega⟩
  go_wp2_with fail
  refine (take_any y1.heap.size (p0 uc.queue) (p1 uc.queue) (p2 uc.queue) m (by have := HL.out; have := HM.out; omega) Y2 B2.out).mono ?_
  rintro e y3 ⟨rfl, bx3, g3⟩
  have HQN := Lib.hid (show ringL (p0 uc.queue) (p1 uc.queue) (p2 uc.queue) 1 m = uc.queue.tail by
    have h1 : m = uc.queue.length - 1 := by have := HM.out; omega
    rw [h1]; exact ring_taken uc.queue HL.out.2 HL.out.1)
  have KEEP := Lib.hid (show ∀ b T cs, b < w.heap.size → Box w b T cs → Box y3 b T cs from fun b T cs hlt kx => (kx.stay K2.out.1).grew g3 (by have := (K2.out.box (b := w.heap.size) (T := 88) (vs := deedC s c pp r (ptr g jo)) (by simp)).lt; omega))
  have G3 := Lib.hid g3
  have B3 := Lib.hid bx3
  have T3 := Lib.hid (T2.out.grewN B2.out nG g3)
  have D3 := Lib.hid ((K2.out.box (b := w.heap.size) (T := 88) (vs := deedC s c pp r (ptr g jo)) (by simp)).grew g3 (by have := (K2.out.box (b := w.heap.size) (T := 88) (vs := deedC s c pp r (ptr g jo)) (by simp)).lt; exact Box.ne (K2.out.box (b := w.heap.size) (T := 88) (vs := deedC s c pp r (ptr g jo)) (by simp)) B2.out (by decide)))
  have k12 := D3.out.cell 12 _ rfl
  have q0 := B3.out.cell 0 _ rfl
  have q1 := B3.out.cell 1 _ rfl
  have q2 := B3.out.cell 2 _ rfl
  have q3 := B3.out.cell 3 _ rfl
  have q4 := B3.out.cell 4 _ rfl
  have v12 : y3.drew.cell? ⟨w.heap.size, 12, none⟩ = some (ptr g jo) := k12
  have v0 : y3.drew.cell? ⟨y1.heap.size, 0, none⟩ = some (.int .i64 (p0 uc.queue)) := q0
  have v1 : y3.drew.cell? ⟨y1.heap.size, 1, none⟩ = some (.int .i64 (p1 uc.queue)) := q1
  have v2 : y3.drew.cell? ⟨y1.heap.size, 2, none⟩ = some (.int .i64 (p2 uc.queue)) := q2
  have v3 : y3.drew.cell? ⟨y1.heap.size, 3, none⟩ = some (.int .i64 1) := q3
  have v4 : y3.drew.cell? ⟨y1.heap.size, 4, none⟩ = some (.int .i64 ((m : Int))) := q4
  have HBL := Lib.hid (show Below n0 w y3 from ((K2.out.1.mono hn).trans (g3.below (by omega) (by have := (K2.out.box (b := w.heap.size) (T := 88) (vs := deedC s c pp r (ptr g jo)) (by simp)).lt; omega))))
  clear g3 bx3 K2 T2
  go_wp2_with fail
  go_cut [] (fun wx => ∃ (y5 : World) (q : Sl), OwnQ y3.heap.size y5 q (uc.queue.tail) ∧ Below y3.heap.size y3 y5 ∧ wx = y5.setCell ⟨g, jo * 8 + 6, none⟩ (.slice q.a q.n q.c))
  case first =>
    go_region_with (go_at_call 116; refine (list_ring1 _ _ _ m (by have := HL.out; have := HM.out; omega) _).mono ?_; rintro e y5 ⟨s5, rfl, oq, hb5⟩; have k12' := stayCell v12 hb5; have u6' := ((T3.out.drew).stay hb5).at HS.out HU.out 6 _ rfl; have f6' := ((T3.out.drew).stay hb5).1.thaw HS.out (jo * 8 + 6); have OQ := Lib.hid oq; have HB5 := Lib.hid hb5; clear oq hb5)
    all_goals
      go_wp2_with fail
      go_meet
      exact ⟨_, _, by rw [← HQN.out]; exact OQ.out, ((Below.refl y3.heap.size y3).drew).trans HB5.out, rfl⟩
  case rest =>
    obtain ⟨y5, q, oq, hb5, hwc⟩ := hcut
    have t5 := T3.out.stay hb5
    obtain ⟨-, hg0, hgl, curg, bxg⟩ := t5.1.blk HS.out
    have tF := t5.queue HS.out HU.out (uc.queue.tail) q (oq.less (by have := HBL.out.size; omega)) (fun j b hj hne => ((RowF.apart (T3.out.get hj).2 oq (Nat.le_refl _))).symm)
    rw [← hwc] at tF
    have TF := Lib.hid tF
    have BF := Lib.hid (show Below n0 w wc from hwc ▸ ((HBL.out.trans (hb5.mono (by have := HBL.out.size; omega))).setCell (p := ⟨g, jo * 8 + 6, none⟩) hg0 _))
    have ZF := Lib.hid (show w.heap.size ≤ wc.heap.size by have h1 := HBL.out.size; have h2 := hb5.size; rw [hwc]; simpa [World.setCell] using Nat.le_trans h1 h2)
    have KP := Lib.hid (show ∀ b T cs, b < w.heap.size → Off T cs → Box w b T cs → Box wc b T cs from fun b T cs hlt hN kx => by
      have h3 := KEEP.out b T cs hlt kx
      rw [hwc]
      exact (h3.stay hb5).other (p := ⟨g, jo * 8 + 6, none⟩) (Box.ne (h3.stay hb5) bxg hN.t) _)
    clear tF t5 oq hb5 hwc bxg
    go_wp2
    go_ret
    exact ⟨rfl, ⟨q, TF.out⟩, BF.out, ZF.out, KP.out⟩
set_option maxHeartbeats 4000000 in
theorem deedNone (n0 : Nat) (s : Sl) (ts : List Tr) (c : C5) (pp : Value) (r : R5) (g jo : Nat) (uc : T8) (us uq : Sl) (w : World) (hT : TaW n0 w s ts) (hn : n0 ≤ w.heap.size) (hs : s.a = some ⟨g, 0, none⟩) (hu : ts[jo]? = some (uc, us, uq)) (hl : uc.queue.length = 0) :
    Calls Tryz.prog 96 #[.agg (deedC s c pp r (ptr g jo))] w (DeedPost n0 w s ts (-4)) := by
  unfold DeedPost
  obtain ⟨Y, hY⟩ : ∃ Y, w.alloc (.cells (deedC s c pp r (ptr g jo)) 88) = Y := ⟨_, rfl⟩
  have K := deed_box w (deedC s c pp r (ptr g jo))
  rw [hY] at K
  have t1 := hT.stay K.1
  have u6 := t1.at hs hu 6 _ rfl
  have hQ := Lib.hid (OwnQ.has (t1.get hu).2)
  have k5 := K.c (b := w.heap.size) (T := 88) (vs := deedC s c pp r (ptr g jo)) (by simp) 5 _ rfl
  have k12 := K.c (b := w.heap.size) (T := 88) (vs := deedC s c pp r (ptr g jo)) (by simp) 12 _ rfl
  have T1 := Lib.hid t1
  have HK := Lib.hid K
  have HU := Lib.hid hu
  have HS := Lib.hid hs
  have HL := Lib.hid hl
  clear K hT t1 hu hs hl
  go_enter Tryz.func96, Tryz.ntmps96
  go_wp2_with fail
  refine (ringOf_any uc.queue uq Y hQ.out (by have := HL.out; omega)).mono ?_
  rintro e y1 ⟨rfl, hb⟩
  obtain ⟨M, hM⟩ : ∃ M : Int, (uc.queue.length : Int) = M := ⟨_, rfl⟩
  have HM := Lib.hid hM
  rw [hM]
  clear hM
  obtain ⟨Y2, hY2⟩ : ∃ Y2, y1.alloc (.cells (rgC (p0 uc.queue) (p1 uc.queue) (p2 uc.queue) 0 M) 152) = Y2 := ⟨_, rfl⟩
  have hb2 : Below Y.heap.size Y Y2 := hY2 ▸ hb.alloc hb.size _
  have K2 := Lib.hid (HK.out.stay hb2)
  have T2 := Lib.hid (T1.out.stay hb2)
  have B2 := Lib.hid (show Box Y2 y1.heap.size 152 (rgC (p0 uc.queue) (p1 uc.queue) (p2 uc.queue) 0 M) from hY2 ▸ Box.fresh _ _ _)
  have zz := hb.size
  have zY := HK.out.1.size
  clear hb hb2 HK T1 k5 k12 u6 hQ
  have k5 := K2.out.c (b := w.heap.size) (T := 88) (vs := deedC s c pp r (ptr g jo)) (by simp) 5 _ rfl
  have HM0 := Lib.hid (show M = 0 by have := HL.out; have := HM.out; omega)
  go_wp2_with fail
  refine (take_none y1.heap.size (p0 uc.queue) (p1 uc.queue) (p2 uc.queue) 0 Y2 (by have := B2.out; rw [HM0.out] at this; exact this)).mono ?_
  rintro e y3 ⟨rfl, rfl⟩
  go_wp2
  go_ret
  exact ⟨rfl, T2.out, K2.out.1.mono hn, K2.out.1.size, fun b T cs _ _ kx => kx.stay K2.out.1⟩
end Go.Proofs.YtbopficnajdaoaaGreatDoor

namespace Go.Proofs.YtbopficnajdaoaaGreatDoor
open Go.RowKit
set_option maxRecDepth 100000
set_option linter.unusedVariables false

set_option maxHeartbeats 4000000 in
theorem deedPass (n0 : Nat) (s : Sl) (ts : List Tr) (ck cr ca cb cn : Int) (pp : Value) (r : R5) (g jo jt : Nat) (uc pc : T8) (us uq ps pq : Sl) (n2 : Int) (w : World) (hT : TaW n0 w s ts) (hn : n0 ≤ w.heap.size) (hs : s.a = some ⟨g, 0, none⟩) (hu : ts[jo]? = some (uc, us, uq)) (hp : ts[jt]? = some (pc, ps, pq)) (hne : jt ≠ jo) (hto : uc.to = (jt : Int) + 1) (hnum : 0 ≤ uc.num ∧ uc.num ≤ 99) (h8 : ts.length ≤ 8) (hrem : Int.tmod cn 2 = n2) :
    Calls Tryz.prog 98 #[.agg (deedC s ⟨ck, cr, ca, cb, cn⟩ pp r (ptr g jo))] w (DeedPost n0 w s ((ts.set jt ({ pc with num := n2 }, ps, pq)).set jo ({ uc with num := min (uc.num + 1) 99 }, us, uq)) 0) := by
  obtain ⟨Y, hY⟩ : ∃ Y, w.alloc (.cells (deedC s ⟨ck, cr, ca, cb, cn⟩ pp r (ptr g jo)) 88) = Y := ⟨_, rfl⟩
  have K := deed_box w (deedC s ⟨ck, cr, ca, cb, cn⟩ pp r (ptr g jo))
  rw [hY] at K
  have t1 := hT.stay K.1
  obtain ⟨-, hg0, hgl, cur, bx⟩ := t1.1.blk hs
  have hsn := t1.1.1
  have hjt : jt < ts.length := (List.getElem?_eq_some_iff.1 hp).1
  have cu7 : Y.cell? ⟨g, jo * 8 + 7, none⟩ = some (.int .i64 uc.to) := t1.at hs hu 7 _ rfl
  rw [hto] at cu7
  have p4 := t1.at hs hp 4 _ rfl
  have f4 := bx.thaw (jt * 8 + 4)
  have k0 := K.c (b := w.heap.size) (T := 88) (vs := deedC s ⟨ck, cr, ca, cb, cn⟩ pp r (ptr g jo)) (by simp) 0 _ rfl
  have k5 := K.c (b := w.heap.size) (T := 88) (vs := deedC s ⟨ck, cr, ca, cb, cn⟩ pp r (ptr g jo)) (by simp) 5 _ rfl
  have k12 := K.c (b := w.heap.size) (T := 88) (vs := deedC s ⟨ck, cr, ca, cb, cn⟩ pp r (ptr g jo)) (by simp) 12 _ rfl
  obtain ⟨sa, sn, sc⟩ := s
  dsimp only at hs hsn
  subst hs hsn
  have hjt' : (jt : Int) < (ts.length : Int) := by omega
  have T1 := Lib.hid t1
  have BX := Lib.hid bx
  have HK := Lib.hid K
  have HG := Lib.hid hg0
  have HU := Lib.hid hu
  have HP := Lib.hid hp
  have HN := Lib.hid hnum
  obtain ⟨N, hN⟩ : ∃ N, ts.length = N := ⟨_, rfl⟩
  rw [hN] at hjt' k0 h8 hY ⊢
  have HNL := Lib.hid hN
  obtain ⟨Y1, hY1⟩ : ∃ Y1, Y.drew.setCell ⟨g, jt * 8 + 4, none⟩ (.int .i64 n2) = Y1 := ⟨_, rfl⟩
  clear K hT t1 bx hu hp hjt hN hnum hg0
  unfold DeedPost
  go_enter Tryz.func98, Tryz.ntmps98
  go_wp2_with fail
  go_cut [] (fun wx => wx = Y1)
  case first =>
    go_region
    all_goals
      go_wp2_with fail
      go_meet
      first | rfl | exact hY1
  case rest =>
    subst hcut
    have t2 : TaW n0 wc ⟨some ⟨g, 0, none⟩, ts.length, sc⟩ (ts.set jt ({ pc with num := n2 }, ps, pq)) := by
      have := hY1 ▸ (TaW.num (T1.out.drew) rfl HP.out n2)
      exact this
    have hu2 : (ts.set jt ({ pc with num := n2 }, ps, pq))[jo]? = some (uc, us, uq) := by rw [List.getElem?_set_ne hne]; exact HU.out
    obtain ⟨-, -, -, cur2, bx2⟩ := t2.1.blk (b := g) (o := 0) rfl
    have bl2 : Below n0 w wc := hY1 ▸ ((HK.out.1.mono hn).drew.setCell (p := ⟨g, jt * 8 + 4, none⟩) HG.out _)
    have dk : Box wc w.heap.size 88 (deedC ⟨some ⟨g, 0, none⟩, ts.length, sc⟩ ⟨ck, cr, ca, cb, cn⟩ pp r (ptr g jo)) := by
      have := HK.out.box (b := w.heap.size) (T := 88) (vs := deedC ⟨some ⟨g, 0, none⟩, ts.length, sc⟩ ⟨ck, cr, ca, cb, cn⟩ pp r (ptr g jo)) (by simp [HNL.out])
      exact hY1 ▸ (this.drew.other (p := ⟨g, jt * 8 + 4, none⟩) (Box.ne this BX.out (by decide)) _)
    have z2 : w.heap.size ≤ wc.heap.size := by have := HK.out.1.size; rw [← hY1]; simpa [World.setCell] using this
    have kp : ∀ b T cs, b < w.heap.size → Off T cs → Box w b T cs → Box wc b T cs := fun b T cs _ hT kx => by
      have kx' := kx.stay HK.out.1
      exact hY1 ▸ (kx'.drew.other (p := ⟨g, jt * 8 + 4, none⟩) (Box.ne kx' BX.out hT.t) _)
    have m12 := dk.cell 12 _ rfl
    have cu4 := t2.at (g := g) rfl hu2 4 _ rfl
    have f5 := bx2.thaw (jo * 8 + 4)
    have T3 := Lib.hid (fun z => t2.drew.num (g := g) rfl hu2 z)
    have BX2 := Lib.hid bx2
    have BL2 := Lib.hid bl2
    have KP := Lib.hid kp
    have Z2 := Lib.hid z2
    have hb1 := HN.out
    clear t2 hu2 bx2 bl2 dk kp z2 T1 HK BX k0 k5 k12 cu7 p4 f4 hY1
    by_cases hm : (99 : Int) < uc.num + 1
    · have EM := Lib.hid (show min (uc.num + 1) 99 = 99 by omega)
      go_wp2_with fail
      go_region
      all_goals
        go_wp2
        go_ret
        refine ⟨rfl, by rw [EM.out, ← HNL.out]; exact T3.out 99, BL2.out.drew.setCell (p := ⟨g, jo * 8 + 4, none⟩) HG.out _, by simpa [World.setCell] using Z2.out, fun b T cs hlt hT kx => ?_⟩
        have kx' := KP.out b T cs hlt hT kx
        exact kx'.drew.other (p := ⟨g, jo * 8 + 4, none⟩) (Box.ne kx' BX2.out hT.t) _
    · have EM := Lib.hid (show min (uc.num + 1) 99 = uc.num + 1 by omega)
      go_wp2_with fail
      go_region
      all_goals
        go_wp2
        go_ret
        refine ⟨rfl, by rw [EM.out, ← HNL.out]; exact T3.out (uc.num + 1), BL2.out.drew.setCell (p := ⟨g, jo * 8 + 4, none⟩) HG.out _, by simpa [World.setCell] using Z2.out, fun b T cs hlt hT kx => ?_⟩
        have kx' := KP.out b T cs hlt hT kx
        exact kx'.drew.other (p := ⟨g, jo * 8 + 4, none⟩) (Box.ne kx' BX2.out hT.t) _
end Go.Proofs.YtbopficnajdaoaaGreatDoor

namespace Go.Proofs.YtbopficnajdaoaaGreatDoor
open Go.RowKit
set_option maxRecDepth 100000
set_option linter.unusedVariables false

/-- A new thing owns what it has. -/
theorem new_thW {kind sec vou tt : Int} {w y : World} {e : Ending} (h : NewPost kind sec vou tt w e y) (ho : okT (newT kind sec vou tt) = true) : ∃ ss q : Sl, e = .returned (.tuple #[(newT kind sec vou tt).val ss q, .bool true]) ∧ ThW w.heap.size y (newT kind sec vou tt, ss, q) ∧ Below w.heap.size w y := by
  obtain ⟨h1, hb⟩ := h
  rcases h1 with ⟨h1, -⟩ | ⟨-, ss, q, e1, hr, hq, hS, -⟩
  · rw [ho] at h1; cases h1
  · refine ⟨ss, q, e1, ⟨?_, ?_⟩, hb⟩
    · cases hk : hasS kind with
      | true =>
        obtain ⟨b, TY, hTY, hlt, rfl, bx⟩ := hS hk
        have e : (newT kind sec vou tt).slots = [⟨0, 0, false, false, false⟩, ⟨0, 0, false, false, false⟩, ⟨0, 0, false, false, false⟩, ⟨0, 0, false, false, false⟩] := by simp [newT, hk]
        show OwnR _ _ _ (newT kind sec vou tt).slots
        rw [e]
        exact ⟨rfl, Nat.le_refl _, .inr ⟨b, TY, zr20, hTY, rfl, hlt, bx, by rfl⟩⟩
      | false =>
        have e : (newT kind sec vou tt).slots = [] := by simp [newT, hk]
        show OwnR _ _ _ (newT kind sec vou tt).slots
        rw [e]
        have hn : ss.n = 0 := by have := hr.len; rw [e] at this; exact this
        exact ⟨hn, hr.2.1, .inl rfl⟩
    · show OwnQ _ _ _ (newT kind sec vou tt).queue
      have e : (newT kind sec vou tt).queue = [] := rfl
      rw [e]
      have hn : q.n = 0 := by have := hq.len; rw [e] at this; exact this
      exact ⟨hn, hq.2.1, .inl rfl⟩
theorem lay8 (W : World) (b o : Nat) (t : Tr) : ((((((((W.setCell ⟨b, o, none⟩ (.int .i64 t.1.kind)).setCell ⟨b, o + 1, none⟩ (.int .i64 t.1.sec)).setCell ⟨b, o + 2, none⟩ (.int .i64 t.1.vou)).setCell ⟨b, o + 3, none⟩ (.int .i64 t.1.vers)).setCell ⟨b, o + 4, none⟩ (.int .i64 t.1.num)).setCell ⟨b, o + 5, none⟩ (.slice t.2.1.a t.2.1.n t.2.1.c)).setCell ⟨b, o + 6, none⟩ (.slice t.2.2.a t.2.2.n t.2.2.c)).setCell ⟨b, o + 7, none⟩ (.int .i64 t.1.to)) = lay W b o (Tr.cs t).toList := by
  simp only [lay, Nat.add_assoc, Nat.reduceAdd]
theorem lay_belo {n0 b : Nat} (hb : n0 ≤ b) (vs : List Value) : ∀ (W : World) (o : Nat), Below n0 W (lay W b o vs) := by
  induction vs with
  | nil => intro W o; exact Below.refl _ _
  | cons v vs ih => intro W o; exact ((Below.refl _ _).setCell (p := ⟨b, o, none⟩) hb v).trans (ih _ _)
/-- A thing stored whole where an empty one was. -/
abbrev put8 (W : World) (b : Nat) (x : T8) (s q : Sl) : World := (((((((W.setCell ⟨b, 0, none⟩ (.int .i64 x.kind)).setCell ⟨b, 1, none⟩ (.int .i64 x.sec)).setCell ⟨b, 2, none⟩ (.int .i64 x.vou)).setCell ⟨b, 3, none⟩ (.int .i64 x.vers)).setCell ⟨b, 4, none⟩ (.int .i64 x.num)).setCell ⟨b, 5, none⟩ (.slice s.a s.n s.c)).setCell ⟨b, 6, none⟩ (.slice q.a q.n q.c)).setCell ⟨b, 7, none⟩ (.int .i64 x.to)
theorem put8_box {W : World} {b : Nat} {T : TypeId} (x : T8) (s q : Sl) (bz : Box W b T #[.int .i64 0, .int .i64 0, .int .i64 0, .int .i64 0, .int .i64 0, .slice none 0 0, .slice none 0 0, .int .i64 0]) : Box (put8 W b x s q) b T (T8.cs x s q) := by
  have := (((((((bz.put 0 (.int .i64 x.kind)).put 1 (.int .i64 x.sec)).put 2 (.int .i64 x.vou)).put 3 (.int .i64 x.vers)).put 4 (.int .i64 x.num)).put 5 (.slice s.a s.n s.c)).put 6 (.slice q.a q.n q.c)).put 7 (.int .i64 x.to)
  simpa using this
theorem put8_other {W : World} {b b' : Nat} {T : TypeId} {cs : Array Value} (x : T8) (s q : Sl) (bx : Box W b' T cs) (hn : b' ≠ b) : Box (put8 W b x s q) b' T cs :=
  (((((((bx.other (p := ⟨b, 0, none⟩) hn _).other (p := ⟨b, 1, none⟩) hn _).other (p := ⟨b, 2, none⟩) hn _).other (p := ⟨b, 3, none⟩) hn _).other (p := ⟨b, 4, none⟩) hn _).other (p := ⟨b, 5, none⟩) hn _).other (p := ⟨b, 6, none⟩) hn _).other (p := ⟨b, 7, none⟩) hn _
theorem put8_below {W : World} {b n0 : Nat} (x : T8) (s q : Sl) (hn : n0 ≤ b) : Below n0 W (put8 W b x s q) :=
  ((((((((Below.refl _ _).setCell (p := ⟨b, 0, none⟩) hn _).setCell (p := ⟨b, 1, none⟩) hn _).setCell (p := ⟨b, 2, none⟩) hn _).setCell (p := ⟨b, 3, none⟩) hn _).setCell (p := ⟨b, 4, none⟩) hn _).setCell (p := ⟨b, 5, none⟩) hn _).setCell (p := ⟨b, 6, none⟩) hn _).setCell (p := ⟨b, 7, none⟩) hn _
theorem below_new {Y y : World} {o : Obj} (h : Below Y.heap.size Y y) : Below Y.heap.size Y (y.alloc o) := h.alloc h.size o
theorem below_put8 {Y y : World} {b : Nat} (h : Below Y.heap.size Y y) (hn : Y.heap.size ≤ b) (v0 v1 v2 v3 v4 v5 v6 v7 : Value) : Below Y.heap.size Y ((((((((y.setCell ⟨b, 0, none⟩ v0).setCell ⟨b, 1, none⟩ v1).setCell ⟨b, 2, none⟩ v2).setCell ⟨b, 3, none⟩ v3).setCell ⟨b, 4, none⟩ v4).setCell ⟨b, 5, none⟩ v5).setCell ⟨b, 6, none⟩ v6).setCell ⟨b, 7, none⟩ v7) :=
  (((((((h.setCell (p := ⟨b, 0, none⟩) hn _).setCell (p := ⟨b, 1, none⟩) hn _).setCell (p := ⟨b, 2, none⟩) hn _).setCell (p := ⟨b, 3, none⟩) hn _).setCell (p := ⟨b, 4, none⟩) hn _).setCell (p := ⟨b, 5, none⟩) hn _).setCell (p := ⟨b, 6, none⟩) hn _).setCell (p := ⟨b, 7, none⟩) hn _
/-- Where a new thing lies. -/
def NewAt (Y : World) (nt : T8) (sl : Value) (wx : World) : Prop := ∃ (rb : Nat) (ss q : Sl), sl = .pointer (some ⟨rb, 0, none⟩) ∧ Y.heap.size ≤ rb ∧ ThW Y.heap.size wx (nt, ss, q) ∧ Below Y.heap.size Y wx ∧ Box wx rb 40 (T8.cs nt ss q)
theorem newAt_late {Y y5 : World} {nt : T8} {ss q : Sl} (th : ThW Y.drew.heap.size y5 (nt, ss, q)) (hb : Below Y.drew.heap.size Y.drew y5) : NewAt Y nt (.pointer (some ⟨y5.heap.size, 0, none⟩)) (y5.alloc (.cells (T8.cs nt ss q) 40)) := by
  have hb' : Below Y.heap.size Y y5 := ((Below.refl Y.heap.size Y).drew).trans hb
  exact ⟨_, ss, q, rfl, hb'.size, (show ThW Y.heap.size y5 (nt, ss, q) from th).keep (fun b T cs _ _ bx => bx.past _) (fun b T cs _ _ bx => bx.past _), hb'.alloc hb'.size _, Box.fresh _ _ _⟩
theorem newAt_soon {Y y5 : World} {nt : T8} {ss q : Sl} (th : ThW (Y.alloc (.cells #[.int .i64 0, .int .i64 0, .int .i64 0, .int .i64 0, .int .i64 0, .slice none 0 0, .slice none 0 0, .int .i64 0] 40)).drew.heap.size y5 (nt, ss, q)) (hb : Below (Y.alloc (.cells #[.int .i64 0, .int .i64 0, .int .i64 0, .int .i64 0, .int .i64 0, .slice none 0 0, .slice none 0 0, .int .i64 0] 40)).drew.heap.size (Y.alloc (.cells #[.int .i64 0, .int .i64 0, .int .i64 0, .int .i64 0, .int .i64 0, .slice none 0 0, .slice none 0 0, .int .i64 0] 40)).drew y5) : NewAt Y nt (.pointer (some ⟨Y.heap.size, 0, none⟩)) (put8 y5 Y.heap.size nt ss q) := by
  have z : (Y.alloc (.cells #[.int .i64 0, .int .i64 0, .int .i64 0, .int .i64 0, .int .i64 0, .slice none 0 0, .slice none 0 0, .int .i64 0] 40)).drew.heap.size = Y.heap.size + 1 := by show (Y.alloc (.cells #[.int .i64 0, .int .i64 0, .int .i64 0, .int .i64 0, .int .i64 0, .slice none 0 0, .slice none 0 0, .int .i64 0] 40)).heap.size = _; simp
  have b0 : Box (Y.alloc (.cells #[.int .i64 0, .int .i64 0, .int .i64 0, .int .i64 0, .int .i64 0, .slice none 0 0, .slice none 0 0, .int .i64 0] 40)).drew Y.heap.size 40 #[.int .i64 0, .int .i64 0, .int .i64 0, .int .i64 0, .int .i64 0, .slice none 0 0, .slice none 0 0, .int .i64 0] := (Box.fresh Y _ _).drew
  have b5 := b0.stay hb
  have hb' : Below Y.heap.size Y y5 := (((Below.refl Y.heap.size Y).alloc (Nat.le_refl _) _).drew).trans (hb.mono (by omega))
  refine ⟨_, ss, q, rfl, Nat.le_refl _, ?_, hb'.trans (put8_below nt ss q (Nat.le_refl _)), put8_box nt ss q b5⟩
  exact (th.less (n0 := Y.heap.size) (by omega)).keep (fun b T cs hT _ bx => put8_other nt ss q bx (Box.ne bx b5 hT.neT)) (fun b T cs hT _ bx => put8_other nt ss q bx (Box.ne bx b5 hT.neT))
set_option maxHeartbeats 2000000 in
theorem deedOld (n0 : Nat) (s : Sl) (ts : List Tr) (c : C5) (pp : Value) (r : R5) (g jo : Nat) (uc : T8) (us uq : Sl) (w : World) (hT : TaW n0 w s ts) (hn : n0 ≤ w.heap.size) (hs : s.a = some ⟨g, 0, none⟩) (hu : ts[jo]? = some (uc, us, uq)) (hv : uc.vers = 5) :
    Calls Tryz.prog 97 #[.agg (deedC s c pp r (ptr g jo))] w (DeedPost n0 w s ts (-4)) := by
  have K := deed_box w (deedC s c pp r (ptr g jo))
  have T1 := Lib.hid (hT.stay K.1)
  have d3 : (w.alloc (.cells (deedC s c pp r (ptr g jo)) 88)).cell? ⟨g, jo * 8 + 3, none⟩ = some (.int .i64 uc.vers) := stayCell (hT.at hs hu 3 _ rfl) K.1
  rw [hv] at d3
  have k12 := K.c (b := w.heap.size) (T := 88) (vs := deedC s c pp r (ptr g jo)) (by simp) 12 _ rfl
  have HK := Lib.hid K
  clear K hT hu hv
  unfold DeedPost
  go_enter Tryz.func97, Tryz.ntmps97
  go_wp2
  go_ret
  exact ⟨rfl, T1.out, HK.out.1.mono hn, HK.out.1.size, fun b T cs _ _ bx => bx.stay HK.out.1⟩
set_option maxHeartbeats 4000000 in
theorem deedRenew (n0 : Nat) (s : Sl) (ts : List Tr) (c : C5) (pp : Value) (r : R5) (g jo : Nat) (uc : T8) (us uq : Sl) (w : World) (hT : TaW n0 w s ts) (hn : n0 ≤ w.heap.size) (hs : s.a = some ⟨g, 0, none⟩) (hu : ts[jo]? = some (uc, us, uq)) (hf : KF w) (hv : 0 ≤ uc.vers ∧ uc.vers < 5) (ho : okT (newT uc.kind uc.sec uc.vou 0) = true) :
    Calls Tryz.prog 97 #[.agg (deedC s c pp r (ptr g jo))] w (fun e w' => ∃ ss q : Sl, DeedPost n0 w s (ts.set jo ({ newT uc.kind uc.sec uc.vou 0 with vers := uc.vers + 1 }, ss, q)) 0 e w') := by
  obtain ⟨Y, hY⟩ : ∃ Y, w.alloc (.cells (deedC s c pp r (ptr g jo)) 88) = Y := ⟨_, rfl⟩
  have K := deed_box w (deedC s c pp r (ptr g jo))
  rw [hY] at K
  have t1 := hT.stay K.1
  have e0 := t1.at hs hu 0 _ rfl
  rw [Nat.add_zero] at e0
  have e1 := t1.at hs hu 1 _ rfl
  have e2 := t1.at hs hu 2 _ rfl
  have e3 := t1.at hs hu 3 _ rfl
  have k12 := K.c (b := w.heap.size) (T := 88) (vs := deedC s c pp r (ptr g jo)) (by simp) 12 _ rfl
  have v0 : Y.drew.cell? ⟨g, jo * 8, none⟩ = some (.int .i64 uc.kind) := e0
  have v1 : Y.drew.cell? ⟨g, jo * 8 + 1, none⟩ = some (.int .i64 uc.sec) := e1
  have v2 : Y.drew.cell? ⟨g, jo * 8 + 2, none⟩ = some (.int .i64 uc.vou) := e2
  have v12 : Y.drew.cell? ⟨w.heap.size, 12, none⟩ = some (ptr g jo) := k12
  have hv5 : (uc.vers == 5) = false := by simp; omega
  have bA : Below Y.heap.size Y (Y.alloc (.cells #[.int .i64 0, .int .i64 0, .int .i64 0, .int .i64 0, .int .i64 0, .slice none 0 0, .slice none 0 0, .int .i64 0] 40)).drew := ((Below.refl _ _).alloc (Nat.le_refl _) _).drew
  have a0 := stayCell e0 bA
  have a1 := stayCell e1 bA
  have a2 := stayCell e2 bA
  have a12 := stayCell k12 bA
  have HF2 := Lib.hid ((hf.stay K.1).stay bA)
  have hA := bA
  have hAz : Y.heap.size ≤ (Y.alloc (.cells #[.int .i64 0, .int .i64 0, .int .i64 0, .int .i64 0, .int .i64 0, .slice none 0 0, .slice none 0 0, .int .i64 0] 40)).drew.heap.size := bA.size
  have hB0 : Below Y.heap.size Y Y := Below.refl _ _
  have hB : Below Y.heap.size Y Y.drew := (Below.refl _ _).drew
  have FX := Lib.hid (show ∀ y, Below Y.heap.size Y y → Below Y.heap.size Y y ∧ y.cell? ⟨w.heap.size, 12, none⟩ = some (ptr g jo) ∧ y.cell? ⟨g, jo * 8, none⟩ = some (.int .i64 uc.kind) ∧ y.cell? ⟨g, jo * 8 + 1, none⟩ = some (.int .i64 uc.sec) ∧ y.cell? ⟨g, jo * 8 + 2, none⟩ = some (.int .i64 uc.vou) from fun y hb => ⟨hb, stayCell k12 hb, stayCell e0 hb, stayCell e1 hb, stayCell e2 hb⟩)
  clear bA
  have T1 := Lib.hid t1
  have HK := Lib.hid K
  have HF := Lib.hid (show KF Y.drew from (hf.stay K.1).stay (Below.refl _ _).drew)
  have HO := Lib.hid ho
  have HU := Lib.hid hu
  have HS := Lib.hid hs
  clear K hT t1 hu hs hf ho
  unfold DeedPost
  go_enter Tryz.func97, Tryz.ntmps97
  go_wp2_with fail
  go_cut [3] (fun sl wx => NewAt Y (newT uc.kind uc.sec uc.vou 0) sl wx)
  case first =>
    go_region_law (first | (go_simp; go_at_call 29; refine (implTNew_any uc.kind uc.sec uc.vou 0 _ (by first | exact HF.out | exact HF2.out)).mono ?_; intro e y5 hN; obtain ⟨ss, q, rfl, th5, hb5⟩ := new_thW hN HO.out; (try (have bz := (Box.fresh Y 40 #[.int .i64 0, .int .i64 0, .int .i64 0, .int .i64 0, .int .i64 0, .slice none 0 0, .slice none 0 0, .int .i64 0]).drew.stay hb5; have z0 := bz.cell 0 _ rfl; have z1 := bz.cell 1 _ rfl; have z2 := bz.cell 2 _ rfl; have z3 := bz.cell 3 _ rfl; have z4 := bz.cell 4 _ rfl; have z5 := bz.cell 5 _ rfl; have z6 := bz.cell 6 _ rfl; have z7 := bz.cell 7 _ rfl; have y0 := bz.thaw 0; have y1 := bz.thaw 1; have y2 := bz.thaw 2; have y3 := bz.thaw 3; have y4 := bz.thaw 4; have y5' := bz.thaw 5; have y6 := bz.thaw 6; have y7 := bz.thaw 7; clear bz)); have TH5 := Lib.hid th5; have HB5 := Lib.hid hb5; have hB : Below Y.heap.size Y y5 := (by first | exact hB.trans hb5 | exact hA.trans (hb5.mono hAz)); clear hN th5 hb5))
    all_goals
      go_wp2_with fail
      go_meet
      first | with_reducible exact newAt_late TH5.out HB5.out | with_reducible exact newAt_soon TH5.out HB5.out
  case rest =>
    obtain ⟨rb, ss, q, rfl, hrb, th5, hbc, bN⟩ := hcut
    obtain ⟨nt, hnt⟩ : ∃ nt, newT uc.kind uc.sec uc.vou 0 = nt := ⟨_, rfl⟩
    rw [hnt] at th5 bN
    have HNT := Lib.hid hnt
    clear hnt e0 e1 e2 e3 k12 v0 v1 v2 v12 a0 a1 a2 a12 HF HF2 hv5 FX hA hAz hB hB0
    have K2 := HK.out.stay hbc
    have t2 := T1.out.stay hbc
    have m12 := K2.c (b := w.heap.size) (T := 88) (vs := deedC s c pp r (ptr g jo)) (by simp) 12 _ rfl
    have m3 : wc.cell? ⟨g, jo * 8 + 3, none⟩ = some (.int .i64 uc.vers) := t2.at HS.out HU.out 3 _ rfl
    have n3 := bN.cell 3 _ rfl
    have g3 := bN.thaw 3
    obtain ⟨V, hV⟩ : ∃ V, wc.setCell ⟨rb, 3, none⟩ (.int .i64 (uc.vers + 1)) = V := ⟨_, rfl⟩
    have bV : Box V rb 40 (T8.cs { nt with vers := uc.vers + 1 } ss q) := by
      have := bN.put 3 (.int .i64 (uc.vers + 1))
      rw [hV] at this
      exact this
    have hgY : g < Y.heap.size := (T1.out.1.blk HS.out).2.2.1
    have bcV : Below Y.heap.size Y V := hV ▸ hbc.setCell (p := ⟨rb, 3, none⟩) hrb _
    have t3 : TaW n0 V s ts := T1.out.stay bcV
    have K3 := HK.out.stay bcV
    have th3 : ThW Y.heap.size V ({ nt with vers := uc.vers + 1 }, ss, q) := by
      have h1 : ThW Y.heap.size wc (nt, ss, q) := th5
      have h2 : ThW Y.heap.size V (nt, ss, q) := hV ▸ h1.keep (fun b T cs hT _ bx => bx.other (p := ⟨rb, 3, none⟩) (Box.ne bx bN hT.neT) _) (fun b T cs hT _ bx => bx.other (p := ⟨rb, 3, none⟩) (Box.ne bx bN hT.neT) _)
      exact h2
    obtain ⟨-, hg0, hgl, curg, bxg⟩ := t3.1.blk HS.out
    have m12' := K3.c (b := w.heap.size) (T := 88) (vs := deedC s c pp r (ptr g jo)) (by simp) 12 _ rfl
    have tF := t3.lay HS.out HU.out ({ nt with vers := uc.vers + 1 }, ss, q) (th3.less (by have := HK.out.1.size; omega)) (fun j b hj hne => ((T1.out.get hj).apart th3 (Nat.le_refl _)).symm)
    have b0 := bV.cell 0 _ rfl
    have b1 := bV.cell 1 _ rfl
    have b2 := bV.cell 2 _ rfl
    have b3 := bV.cell 3 _ rfl
    have b4 := bV.cell 4 _ rfl
    have b5 := bV.cell 5 _ rfl
    have b6 := bV.cell 6 _ rfl
    have b7 := bV.cell 7 _ rfl
    have w0 := t3.at HS.out HU.out 0 _ rfl
    rw [Nat.add_zero] at w0
    have w1 := t3.at HS.out HU.out 1 _ rfl
    have w2 := t3.at HS.out HU.out 2 _ rfl
    have w3 := t3.at HS.out HU.out 3 _ rfl
    have w4 := t3.at HS.out HU.out 4 _ rfl
    have w5 := t3.at HS.out HU.out 5 _ rfl
    have w6 := t3.at HS.out HU.out 6 _ rfl
    have w7 := t3.at HS.out HU.out 7 _ rfl
    have x0 := bxg.thaw (jo * 8)
    have x1 := bxg.thaw (jo * 8 + 1)
    have x2 := bxg.thaw (jo * 8 + 2)
    have x3 := bxg.thaw (jo * 8 + 3)
    have x4 := bxg.thaw (jo * 8 + 4)
    have x5 := bxg.thaw (jo * 8 + 5)
    have x6 := bxg.thaw (jo * 8 + 6)
    have x7 := bxg.thaw (jo * 8 + 7)
    have TF := Lib.hid tF
    have BF := Lib.hid (show Below n0 w (lay V g (jo * 8) (Tr.cs ({ nt with vers := uc.vers + 1 }, ss, q)).toList) from (K3.1.mono hn).trans (lay_belo hg0 _ _ _))
    have ZF := Lib.hid (show w.heap.size ≤ (lay V g (jo * 8) (Tr.cs ({ nt with vers := uc.vers + 1 }, ss, q)).toList).heap.size by rw [lay_size]; exact K3.1.size)
    have KP := Lib.hid (show ∀ b T cs, b < w.heap.size → Off T cs → Box w b T cs → Box (lay V g (jo * 8) (Tr.cs ({ nt with vers := uc.vers + 1 }, ss, q)).toList) b T cs from fun b T cs hlt hN kx => lay_other (Box.ne (kx.stay K3.1) bxg hN.t) _ _ (kx.stay K3.1))
    have L8 := Lib.hid (lay8 V g (jo * 8) ({ nt with vers := uc.vers + 1 }, ss, q))
    clear tF th3 t3 K3 bV bN t2 K2 hbc bcV th5 bxg HK T1
    go_wp2
    go_ret
    refine ⟨rfl, ⟨ss, q, ?_⟩, ?_, ?_, ?_⟩
    · rw [HNT.out]; exact L8.out ▸ TF.out
    · exact L8.out ▸ BF.out
    · exact L8.out ▸ ZF.out
    · exact L8.out ▸ KP.out
end Go.Proofs.YtbopficnajdaoaaGreatDoor
