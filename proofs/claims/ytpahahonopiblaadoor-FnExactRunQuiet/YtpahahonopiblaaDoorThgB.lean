/-
  The program's rights of a thing, as an array.
-/
import Derived.Test.YtpahahonopiblaaDoorThgA
import Derived.Test.YtpahahonopiblaaDoorTNew
import Derived.Laws.CopyRow
import Derived.Laws.Rows
import Derived.Great.BuildSlice
import Derived.Deep.RegionWith
namespace Go.Proofs.YtpahahonopiblaaDoor
open Go.RowKit
set_option linter.unusedVariables false

/-- Four rights as cells. -/
abbrev sl20 (a b c d : R5) : Array Value := #[.int .i64 a.t, .int .i64 a.v, .bool a.r, .bool a.w, .bool a.k, .int .i64 b.t, .int .i64 b.v, .bool b.r, .bool b.w, .bool b.k, .int .i64 c.t, .int .i64 c.v, .bool c.r, .bool c.w, .bool c.k, .int .i64 d.t, .int .i64 d.v, .bool d.r, .bool d.w, .bool d.k]

theorem infoR : (Tryd.prog.info? 44).map (·.size) = some 5 := by kernel_rfl
/-- Four rights copied into a block of their own. -/
theorem copy4 (w : World) (g : Nat) (cur : Array Value) (T : TypeId) (hg : w.heap[g]? = some (.cells cur T (0, 0))) (hz : cur.size = 20) (a : Addr) (n : Nat) (cs : List Value) (hl : cs.length = 20)
    (hsrc : ∀ j v, cs[j]? = some v → w.cell? (a.add j) = some v) (h1 : ∀ v ∈ cs, v.oneCell' = true) :
    (Builtin.copy_ #[34, 34] 3 #[.slice (some ⟨g, 0, none⟩) 4 4, .slice (some a) 4 n]).run Tryd.prog w = .ok (goInt 4) (w.setRow g cs.toArray) := by
  have hl' := run_loadCells_list (P := Tryd.prog) w a cs hsrc
  have hst := run_storeCells_at Tryd.prog g 0 T cs 0 cur w hg (by omega) h1
  have e : (cur.toList.take (0 + 0) ++ cs ++ cur.toList.drop (0 + 0 + cs.length)).toArray = cs.toArray := by
    rw [List.drop_of_length_le (by simp; omega)]; simp
  rw [e] at hst
  rw [hl] at hl'
  have hr := infoR
  cases hq : Tryd.prog.info? 44 with
  | none => simp [hq] at hr
  | some i =>
    have hi : i.size = 5 := by simpa [hq] using hr
    simp [Builtin.copy_, run_underlying Tryd.underlying34, Builtin.lenOf, Builtin.firstCells, sizeOf, typeInfo, hq, hi, hl', hst]
theorem setRow_box {w : World} {g : Nat} {cur : Array Value} {T : TypeId} (h : Box w g T cur) (vs : Array Value) : Box (w.setRow g vs) g T vs := by
  unfold Box at h ⊢
  simp [World.setRow, Array.getElem?_modify, h]
theorem setRow_below {w : World} {g B : Nat} (hB : B ≤ g) (vs : Array Value) : Below B w (w.setRow g vs) :=
  ⟨rfl, rfl, rfl, by simp [World.setRow], fun k hk => by simp [World.setRow, Array.getElem?_modify, show ¬ g = k by omega]⟩
theorem setRow_other {w : World} {g b : Nat} {T : TypeId} {cs vs : Array Value} (h : Box w b T cs) (hn : b ≠ g) : Box (w.setRow g vs) b T cs := by
  unfold Box at h ⊢
  simp [World.setRow, Array.getElem?_modify, h, show ¬ g = b by omega]

theorem infoS : (Tryd.prog.info? 89).map (·.size) = some 20 := by kernel_rfl
theorem one20 (a b c d : R5) : (sl20 a b c d).all (·.oneCell') = true := by simp [Value.oneCell']
/-- Two results, the first a block known whole. -/
theorem results_row_tmp {P : Program} {fn : Func} {p t2 : Tmp} {ty : TypeId} (h : fn.results = #[.cell p ty, .tmp t2]) (tmps : Array Value) (w : World) (g : Nat) (t : TypeId) (cs : Array Value) (d : TypeDesc)
    (hp : tmps.getD p undef = .pointer (some ⟨g, 0, none⟩)) (hg : Box w g t cs)
    (hu : P.underlying ty = some d) (hd : (match d with | .struct _ | .array _ _ => true | _ => false) = true) (hi : (P.info? ty).map (·.size) = some cs.size) :
    (results fn tmps).run P w = .ok (.tuple #[.agg cs, tmps.getD t2 undef]) w := by
  have hp' : tmps[p]?.getD undef = .pointer (some ⟨g, 0, none⟩) := by simpa using hp
  simp [results, h, hp', asAddr, run_loadVar_row w g t ty cs (0, 0) d hg hu hd hi]

set_option maxHeartbeats 2000000 in
theorem slotsOf_no (x : T8) (s q : Sl) (w : World) (hs : s.n = x.slots.length) (h4 : x.slots.length ≠ 4) :
    Calls Tryd.prog 101 #[x.val s q] w fun e w' => e = .returned (.tuple #[.agg zr20, .bool false]) ∧ Below w.heap.size w w' := by
  have h4' : ((x.slots.length : Int) == 4) = false := by simp; omega
  clear h4
  have b1 : Box ((w.alloc (.cells (x.cs s q) 37)).alloc (.cells zr20 89)) (w.heap.size + 1) 89 zr20 := by
    have := Box.fresh (w.alloc (.cells (x.cs s q) 37)) 89 zr20
    simpa using this
  go_enter Tryd.func101, Tryd.ntmps101
  go_wp2_with (refine wpList_store_rowTo rfl 89 (.tmp 2) (.tmp 9) rfl rfl (w.heap.size + 1) zr20 rfl rfl 89 zr20 b1 infoS rfl (one20 ⟨0, 0, false, false, false⟩ ⟨0, 0, false, false, false⟩ ⟨0, 0, false, false, false⟩ ⟨0, 0, false, false, false⟩) ?_)
  refine bodyPost_ret (results_row_tmp Tryd.results101 _ _ (w.heap.size + 1) 89 zr20 _ rfl (setRow_box b1 _) Tryd.underlying89 rfl infoS) rfl ⟨rfl, ?_⟩
  exact Below.trans (((Below.refl _ _).alloc (Nat.le_refl _) _).alloc (by simp) _) (setRow_below (g := w.heap.size + 1) (by omega) _)

/-- Four rights of a slice, cell by cell. -/
theorem four_cells {w : World} {s : Sl} {a b c d : R5} (h : HasR w s [a, b, c, d]) : ∃ bk o, s.a = some ⟨bk, o, none⟩ ∧ ∀ j v, (sl20 a b c d)[j]? = some v → w.cell? ⟨bk, o + j, none⟩ = some v := by
  obtain ⟨h1, h2, h3⟩ := h
  rcases h3 with h3 | ⟨bk, o, e, h3⟩
  · simp at h3
  · refine ⟨bk, o, e, fun j v hv => ?_⟩
    have f0 := h3 0 _ rfl
    have f1 := h3 1 _ rfl
    have f2 := h3 2 _ rfl
    have f3 := h3 3 _ rfl
    match j, hv with
    | 0, hv => exact f0 0 v hv
    | 1, hv => exact f0 1 v hv
    | 2, hv => exact f0 2 v hv
    | 3, hv => exact f0 3 v hv
    | 4, hv => exact f0 4 v hv
    | 5, hv => exact f1 0 v hv
    | 6, hv => exact f1 1 v hv
    | 7, hv => exact f1 2 v hv
    | 8, hv => exact f1 3 v hv
    | 9, hv => exact f1 4 v hv
    | 10, hv => exact f2 0 v hv
    | 11, hv => exact f2 1 v hv
    | 12, hv => exact f2 2 v hv
    | 13, hv => exact f2 3 v hv
    | 14, hv => exact f2 4 v hv
    | 15, hv => exact f3 0 v hv
    | 16, hv => exact f3 1 v hv
    | 17, hv => exact f3 2 v hv
    | 18, hv => exact f3 3 v hv
    | 19, hv => exact f3 4 v hv
    | j + 20, hv => simp at hv

/-- What the copy leaves. -/
theorem slots_copied (a b c d : R5) (s : Sl) (w : World) (hs : HasR w s [a, b, c, d]) (X : Array Value) :
    ∃ w5, (Builtin.copy_ #[34, 34] 3 #[.slice (some ⟨w.heap.size + 2, 0, none⟩) 4 4, .slice s.a 4 s.c]).run Tryd.prog
        (((w.alloc (.cells X 37)).alloc (.cells zr20 89)).alloc (.cells zr20 89)).drew = .ok (goInt 4) w5 ∧
      Kn w [(w.heap.size + 1, 89, zr20), (w.heap.size + 2, 89, sl20 a b c d)] w5 := by
  have hB : Below w.heap.size w (((w.alloc (.cells X 37)).alloc (.cells zr20 89)).alloc (.cells zr20 89)).drew := ((((Below.refl _ _).alloc (Nat.le_refl _) _).alloc (by simp) _).alloc (by simp; omega) _).drew
  obtain ⟨bk, o, e, hc⟩ := four_cells (hs.stay hB)
  have b1 : Box ((w.alloc (.cells X 37)).alloc (.cells zr20 89)) (w.heap.size + 1) 89 zr20 := by
    have := Box.fresh (w.alloc (.cells X 37)) 89 zr20
    simpa using this
  have b2 : Box (((w.alloc (.cells X 37)).alloc (.cells zr20 89)).alloc (.cells zr20 89)) (w.heap.size + 2) 89 zr20 := by
    have := Box.fresh ((w.alloc (.cells X 37)).alloc (.cells zr20 89)) 89 zr20
    simpa using this
  rw [e]
  refine ⟨_, copy4 _ (w.heap.size + 2) zr20 89 b2.drew rfl ⟨bk, o, none⟩ s.c (sl20 a b c d).toList rfl ?_ ?_, ?_⟩
  · intro j v hv
    have := hc j v (by simpa using hv)
    rw [show (⟨bk, o, none⟩ : Addr).add j = ⟨bk, o + j, none⟩ by unfold Addr.add; split <;> simp_all]
    exact this
  · simp [Value.oneCell']
  · refine ⟨hB.trans (setRow_below (by omega) _), fun t ht => ?_⟩
    simp at ht
    rcases ht with rfl | rfl
    · exact setRow_other ((b1.past _).drew) (by omega)
    · exact setRow_box b2.drew _

set_option maxRecDepth 100000 in
set_option maxHeartbeats 4000000 in
theorem slotsOf_yes (x : T8) (s q : Sl) (a b c d : R5) (w : World) (hx : x.slots = [a, b, c, d]) (hs : HasR w s x.slots) :
    Calls Tryd.prog 101 #[x.val s q] w fun e w' => e = .returned (.tuple #[.agg (sl20 a b c d), .bool true]) ∧ Below w.heap.size w w' := by
  have hn : s.n = 4 := by rw [hs.len, hx]; rfl
  obtain ⟨sa, sn, sc⟩ := s
  simp only at hn
  subst hn
  rw [hx] at hs
  obtain ⟨w5, hcp, K5⟩ := slots_copied a b c d _ w hs (x.cs ⟨sa, 4, sc⟩ q)
  clear hs hx
  have b1 := K5.box (b := w.heap.size + 1) (T := 89) (vs := zr20) (by simp)
  have b2 := K5.box (b := w.heap.size + 2) (T := 89) (vs := sl20 a b c d) (by simp)
  have HK := Lib.hid K5
  clear K5
  go_enter Tryd.func101, Tryd.ntmps101
  go_wp2_with fail
  go_region_with fail
  all_goals
    go_wp2_with (first
      | refine wpList_load_row rfl 89 (.tmp 4) rfl (w.heap.size + 2) rfl 89 (sl20 a b c d) (0, 0) _ b2 Tryd.underlying89 rfl infoS ?_
      | refine wpList_store_rowTo rfl 89 (.tmp 2) (.tmp 14) rfl rfl (w.heap.size + 1) (sl20 a b c d) rfl rfl 89 zr20 b1 infoS rfl (one20 a b c d) ?_)
    refine bodyPost_ret (results_row_tmp Tryd.results101 _ _ (w.heap.size + 1) 89 (sl20 a b c d) _ rfl (setRow_box b1 _) Tryd.underlying89 rfl infoS) rfl ⟨rfl, ?_⟩
    exact HK.out.1.trans (setRow_below (by omega) _)
end Go.Proofs.YtpahahonopiblaaDoor
