/-
  The program's iterator over the rights of things.
-/
import Derived.RangeFuncFrom
import Derived.RangeFuncNested
import Derived.RangeFuncBound
import Derived.RangeFuncCalls
import Derived.RangeFuncLeaves
import Derived.Shelf.Abstract
import Derived.Shelf.RegionOpen
import Derived.WalkKit
import Derived.OwnWalkIn
import Derived.TacticsInMore
import Derived.LoopNIn
import Derived.LoopIn
import Derived.Test.YtpahahonopiblaaDoorThgB
import Derived.Test.YtpahahonopiblaaDoorTabOk
namespace Go.Proofs.YtpahahonopiblaaDoor
open Go.RowKit Go.Shelf
set_option linter.unusedVariables false
attribute [local go_sem] Oper.semAt_some

/-- The rights of a thing, if it has as many as it may have. -/
def rtsX (x : T8) : List R5 := if x.slots.length = 4 then x.slots else []
/-- The rights of things, thing by thing. -/
def rts (l : List T8) : List R5 := l.flatMap rtsX
theorem rts_succ (l : List T8) (k : Nat) (h : k < l.length) : rts (l.take (k + 1)) = rts (l.take k) ++ rtsX l[k] := by
  unfold rts; rw [List.take_succ_eq_append_getElem h, List.flatMap_append]; simp
theorem rts_pre (l : List T8) (k : Nat) : rts (l.take k) <+: rts l := by
  have : rts l = rts (l.take k) ++ rts (l.drop k) := by simp only [rts, ← List.flatMap_append, List.take_append_drop]
  rw [this]; exact List.prefix_append _ _
theorem rts_len (l : List T8) (k m : Nat) (h : k < l.length) (h4 : l[k].slots.length = 4) (hm : m < 4) (pre : List R5) (hp : pre.length = m) : (rts (l.take k) ++ pre).length < (rts l).length := by
  have h1 := (rts_pre l (k + 1)).length_le
  rw [rts_succ l k h] at h1
  simp [rtsX, h4] at h1 ⊢
  omega
theorem grown_of {W W' : World} (h : Below W.heap.size W W') : W.grownBy W' none := ⟨h.os, h.tape, h.output, h.size, fun k hk _ => h.block k hk⟩
theorem abides {β : Type} {B : Nat} {J : β → World → Prop} (hJ : AbidesFrom B J) {s : β} {W W' : World} (h : J s W) (hb : Below W.heap.size W W') : J s W' :=
  hJ s W W' none h (grown_of hb) (fun r e => by cases e)
theorem goB2 {w x y : World} {n : Nat} (h : Below n w x) (hn : n ≤ x.heap.size) (hb : Below x.heap.size x y) : Below n w y := h.trans (hb.mono hn)

section
variable {F : Fence} {n : Nat} {P : Program}
/-- A store of a whole block, inside a fence. -/
theorem wpListIn_store_rowTo {ops : Array Oper} {rest : List Oper} {o : Oper} {a : Act} {w : World} {Q : Exit → Act → World → Prop} (hgd : o.guard = none) (ty : TypeId) (x y : Operand) (ho : o.op = .store ty x y)
    (hd : o.dst = none) (g : Nat) (cells : Array Value) (hx : a.eval x = .pointer (some ⟨g, 0, none⟩)) (hy : a.eval y = .agg cells)
    (t : TypeId) (old : Array Value) (hg : w.heap[g]? = some (.cells old t (0, 0))) (hi : (P.info? ty).map (·.size) = some cells.size)
    (hold : old.size = cells.size) (h1 : cells.all (·.oneCell') = true)
    (h : wpListIn F n P ops Q rest a (w.setRow g cells)) : wpListIn F n P ops Q (o :: rest) a w := by
  refine wpListIn_plain hgd fun K' hK' => ?_
  unfold Oper.wpIn
  refine ⟨by simp [Oper.about, ho], ?_⟩
  rw [Oper.semAt_plain F _ _ (by rw [ho]; intro c hc'; cases hc')]
  simp only [execOp, ho, hx, hy, Instr.storeAt, Instr.sureAddr, Sem.run_bind, Sem.run_pure, Result.andThen_ok, run_storeVar_row w g t ty old cells hg hi hold h1]
  exact hK' _ _ (by rw [hd]; exact h)
/-- A load of a whole block, inside a fence. -/
theorem wpListIn_load_row {ops : Array Oper} {rest : List Oper} {o : Oper} {a : Act} {w : World} {Q : Exit → Act → World → Prop} (hgd : o.guard = none) (ty : TypeId) (x : Operand) (ho : o.op = .load ty x)
    (g : Nat) (hx : a.eval x = .pointer (some ⟨g, 0, none⟩)) (t : TypeId) (cs : Array Value) (fr : Nat × Nat) (d : TypeDesc) (hg : w.heap[g]? = some (.cells cs t fr))
    (hu : P.underlying ty = some d) (hd : (match d with | .struct _ | .array _ _ => true | _ => false) = true) (hi : (P.info? ty).map (·.size) = some cs.size)
    (h : wpListIn F n P ops Q rest (a.put o.dst (.agg cs)) w) : wpListIn F n P ops Q (o :: rest) a w := by
  refine wpListIn_plain hgd fun K' hK' => ?_
  unfold Oper.wpIn
  refine ⟨by simp [Oper.about, ho], ?_⟩
  rw [Oper.semAt_plain F _ _ (by rw [ho]; intro c hc'; cases hc')]
  simp only [execOp, ho, hx, Instr.loadAt, Instr.sureAddr, Sem.run_bind, Sem.run_pure, Result.andThen_ok, run_loadVar_row w g t ty cs fr d hg hu hd hi]
  exact hK' _ _ h
end

theorem idx0 (a1 a2 a3 a4 : R5) (w : World) : (Instr.index 89 (.agg (sl20 a1 a2 a3 a4)) (.int .i64 0)).run Tryd.prog w = .ok (.agg a1.cs) w := by kernel_rfl
theorem idx1 (a1 a2 a3 a4 : R5) (w : World) : (Instr.index 89 (.agg (sl20 a1 a2 a3 a4)) (.int .i64 1)).run Tryd.prog w = .ok (.agg a2.cs) w := by kernel_rfl
theorem idx2 (a1 a2 a3 a4 : R5) (w : World) : (Instr.index 89 (.agg (sl20 a1 a2 a3 a4)) (.int .i64 2)).run Tryd.prog w = .ok (.agg a3.cs) w := by kernel_rfl
theorem idx3 (a1 a2 a3 a4 : R5) (w : World) : (Instr.index 89 (.agg (sl20 a1 a2 a3 a4)) (.int .i64 3)).run Tryd.prog w = .ok (.agg a4.cs) w := by kernel_rfl

set_option maxHeartbeats 1000000 in
theorem rightsOf_any (a : Option Addr) (n c : Nat) (w : World) :
    Calls Tryd.prog 61 #[.slice a n c] w fun e w' => e = .returned (.func (.func 100) #[] #[.pointer (some ⟨w.heap.size, 0, none⟩)]) ∧ w' = w.alloc (.cells #[.slice a n c] 25) := by
  go_enter Tryd.func61, Tryd.ntmps61
  go_wp2
  go_ret
  exact ⟨rfl, rfl⟩

set_option maxRecDepth 100000 in
set_option maxHeartbeats 4000000 in
theorem iter_in (n : Nat) (hn : 1 ≤ n) (l Bs b o c n₀ : Nat) (tl : List T8) (hz : tl.length ≤ 1048576) (hBs : Bs < n₀) (W : World) (hn₀ : n₀ ≤ W.heap.size)
    (J Jx : List R5 → World → Prop) (hJ : AbidesFrom W.heap.size J)
    (hY : ∀ pre x W1, J pre W1 → pre.length < (rts tl).length → YieldAt Fence.wide (n - 1) Tryd.prog l #[rgt x.t x.v x.r x.w x.k] W1 fun e W' =>
      (e = .returned (.bool true) ∧ J (pre ++ [x]) W' ∧ Below n₀ W1 W') ∨ (e = .returned (.bool false) ∧ Jx (pre ++ [x]) W'))
    (hc : W.cell? ⟨Bs, 0, none⟩ = some (.slice (some ⟨b, o, none⟩) tl.length c)) (hT : ∀ W', Below n₀ W W' → Tb W' b o tl) (h0 : J [] W) :
    CallsIn Fence.wide n Tryd.prog 100 #[.func (.yield l) #[] #[], .pointer (some ⟨Bs, 0, none⟩)] W fun e W' => (∃ v, e = .returned v) ∧
      ((∃ ys, ys = rts tl ∧ J ys W') ∨ (∃ pre, pre <+: rts tl ∧ Jx pre W')) := by
  have HT := Lib.hid hT
  have HJ := Lib.hid hJ
  have HY := Lib.hid hY
  have H0 := Lib.hid h0
  clear hT hJ hY h0
  refine callsIn_of_wp Tryd.func100 rfl trivial ?_ rfl
  simp only [Tryd.ntmps100, List.size_toArray, List.length_cons, List.length_nil, Nat.reduceAdd, Nat.reduceSub, Array.replicate_succ, Array.replicate_zero, List.push_toArray, List.append_toArray, List.nil_append, List.cons_append]
  gi_wp2
  clear hc
  gi_loopw [11] (fun i wr => ∃ k : Nat, k ≤ tl.length ∧ i = .int .i64 k ∧ J (rts (tl.take k)) wr ∧ Below n₀ W wr) (fun i _ => tl.length - (intOf i).toNat)
  case atStart => exact ⟨0, Nat.zero_le _, rfl, H0.out, Below.refl _ _⟩
  case round =>
    obtain ⟨k, hk, rfl, hJs, hnx⟩ := hrel
    have HJs := Lib.hid hJs
    have HN := Lib.hid hnx
    clear hJs hnx
    by_cases hlt : k < tl.length
    · have hlt' : (k : Int) < (tl.length : Int) := by omega
      obtain ⟨ss, qs, hR, hQ, hA⟩ := HT.out wr HN.out k hlt
      have hlt2 := cell_lt (hA 0 _ rfl)
      have HR := Lib.hid hR
      have HX := Lib.hid (rts_succ tl k hlt)
      have HL := Lib.hid (rts_len tl k)
      have HS := Lib.hid (rts_pre tl (k + 1))
      clear hQ
      generalize hx : tl[k] = x at *
      have HXX := Lib.hid hx
      clear hx
      have d0 : wr.cell? ⟨b, o + k * 8, none⟩ = some (.int .i64 x.kind) := hA 0 _ rfl
      have d1 := hA 1 _ rfl
      have d2 := hA 2 _ rfl
      have d3 := hA 3 _ rfl
      have d4 := hA 4 _ rfl
      have d5 := hA 5 _ rfl
      have d6 := hA 6 _ rfl
      have d7 := hA 7 _ rfl
      have hB1 : Below wr.heap.size wr (wr.alloc (.cells (x.cs ss qs) 37)) := (Below.refl _ _).alloc (Nat.le_refl _) _
      have HB1 := Lib.hid hB1
      clear hA hB1 hR
      by_cases h4 : x.slots.length = 4
      · obtain ⟨a1, a2, a3, a4, hxs⟩ : ∃ a1 a2 a3 a4, x.slots = [a1, a2, a3, a4] := by
          match hm : x.slots, h4 with
          | [a1, a2, a3, a4], _ => exact ⟨_, _, _, _, rfl⟩
        have HC := Lib.hid (slotsOf_yes x ss qs a1 a2 a3 a4 _ hxs (HR.out.stay HB1.out))
        have HX4 := Lib.hid h4
        have HXS := Lib.hid hxs
        clear h4 hxs
        gi_wp2_with fail
        refine ⟨trivial, ?_⟩
        refine (callsIn_wide.2 HC.out).mono ?_
        rintro e y1 ⟨rfl, hb⟩
        have HB2 := Lib.hid (goB HB1.out hb)
        clear hb d0 d1 d2 d3 d4 d5 d6 d7 HC
        gi_wp2_with (first
          | refine wpListIn_store_rowTo rfl 89 (.tmp 5) (.tmp 18) rfl rfl y1.heap.size (sl20 a1 a2 a3 a4) rfl rfl 89 zr20 (Box.fresh y1 89 zr20) infoS rfl (one20 a1 a2 a3 a4) ?_
          | refine wpListIn_load_row rfl 89 (.tmp 5) rfl y1.heap.size rfl 89 (sl20 a1 a2 a3 a4) (0, 0) _ (setRow_box (Box.fresh y1 89 zr20) (sl20 a1 a2 a3 a4)) Tryd.underlying89 rfl infoS ?_)
        have hB3 : Below wr.heap.size wr ((y1.alloc (.cells zr20 89)).setRow y1.heap.size (sl20 a1 a2 a3 a4)) := (HB2.out.alloc HB2.out.size _).trans (setRow_below HB2.out.size _)
        have HB3 := Lib.hid hB3
        clear hB3
        generalize (y1.alloc (.cells zr20 89)).setRow y1.heap.size (sl20 a1 a2 a3 a4) = y2 at *
        gi_loopw [23] (fun i wr2 => ∃ m : Nat, m ≤ 4 ∧ i = .int .i64 m ∧ J (rts (tl.take k) ++ [a1, a2, a3, a4].take m) wr2 ∧ Below n₀ W wr2) (fun i _ => 4 - (intOf i).toNat)
        case atStart => exact ⟨0, by omega, rfl, by simpa using abides HJ.out HJs.out HB3.out, goB2 HN.out (Nat.le_trans hn₀ HN.out.size) HB3.out⟩
        case round =>
          obtain ⟨m, hm, rfl, hJm, hnm⟩ := hrel
          have HJm := Lib.hid hJm
          have HNm := Lib.hid hnm
          clear hJm hnm
          have hcase : m = 0 ∨ m = 1 ∨ m = 2 ∨ m = 3 ∨ m = 4 := by omega
          clear hm
          rcases hcase with rfl | rfl | rfl | rfl | rfl
          · have HB4 := Lib.hid (show Below wr.heap.size wr (wr.alloc (.cells a1.cs 44)) from (Below.refl _ _).alloc (Nat.le_refl _) _)
            obtain ⟨fn, tmps, assign, body, hy, hR⟩ := HY.out (rts (tl.take k) ++ []) a1 (wr.alloc (.cells a1.cs 44)) (abides HJ.out (by simpa using HJm.out) HB4.out) (HL.out 0 hlt (by rw [HXX.out]; exact HX4.out) (by omega) _ rfl)
            have HRR := Lib.hid hR
            have hix := idx0 a1 a2 a3 a4
            clear hR
            gi_wp2
            refine HRR.out.mono ?_
            rintro e W3 (⟨rfl, hJ3, hk3⟩ | ⟨rfl, hJx3⟩)
            · clear hy HRR hix
              gi_wp2
              go_roundw
              case rel => exact ⟨1, by omega, by simp, by simpa using hJ3, (goB2 HNm.out (Nat.le_trans hn₀ HNm.out.size) HB4.out).trans hk3⟩
              case measure => simp [intOf]
            · clear hy HRR hix
              gi_wp2
              refine bodyPost_ret (results_none rfl _ _ _) rfl ?_
              refine ⟨⟨_, rfl⟩, .inr ⟨_, ?_, hJx3⟩⟩
              refine List.IsPrefix.trans ?_ HS.out
              rw [HX.out]
              simp [rtsX, HXS.out]
          · have HB4 := Lib.hid (show Below wr.heap.size wr (wr.alloc (.cells a2.cs 44)) from (Below.refl _ _).alloc (Nat.le_refl _) _)
            obtain ⟨fn, tmps, assign, body, hy, hR⟩ := HY.out (rts (tl.take k) ++ [a1]) a2 (wr.alloc (.cells a2.cs 44)) (abides HJ.out (by simpa using HJm.out) HB4.out) (HL.out 1 hlt (by rw [HXX.out]; exact HX4.out) (by omega) _ rfl)
            have HRR := Lib.hid hR
            have hix := idx1 a1 a2 a3 a4
            clear hR
            gi_wp2
            refine HRR.out.mono ?_
            rintro e W3 (⟨rfl, hJ3, hk3⟩ | ⟨rfl, hJx3⟩)
            · clear hy HRR hix
              gi_wp2
              go_roundw
              case rel => exact ⟨2, by omega, by simp, by simpa using hJ3, (goB2 HNm.out (Nat.le_trans hn₀ HNm.out.size) HB4.out).trans hk3⟩
              case measure => simp [intOf]
            · clear hy HRR hix
              gi_wp2
              refine bodyPost_ret (results_none rfl _ _ _) rfl ?_
              refine ⟨⟨_, rfl⟩, .inr ⟨_, ?_, hJx3⟩⟩
              refine List.IsPrefix.trans ?_ HS.out
              rw [HX.out]
              simp [rtsX, HXS.out]
          · have HB4 := Lib.hid (show Below wr.heap.size wr (wr.alloc (.cells a3.cs 44)) from (Below.refl _ _).alloc (Nat.le_refl _) _)
            obtain ⟨fn, tmps, assign, body, hy, hR⟩ := HY.out (rts (tl.take k) ++ [a1, a2]) a3 (wr.alloc (.cells a3.cs 44)) (abides HJ.out (by simpa using HJm.out) HB4.out) (HL.out 2 hlt (by rw [HXX.out]; exact HX4.out) (by omega) _ rfl)
            have HRR := Lib.hid hR
            have hix := idx2 a1 a2 a3 a4
            clear hR
            gi_wp2
            refine HRR.out.mono ?_
            rintro e W3 (⟨rfl, hJ3, hk3⟩ | ⟨rfl, hJx3⟩)
            · clear hy HRR hix
              gi_wp2
              go_roundw
              case rel => exact ⟨3, by omega, by simp, by simpa using hJ3, (goB2 HNm.out (Nat.le_trans hn₀ HNm.out.size) HB4.out).trans hk3⟩
              case measure => simp [intOf]
            · clear hy HRR hix
              gi_wp2
              refine bodyPost_ret (results_none rfl _ _ _) rfl ?_
              refine ⟨⟨_, rfl⟩, .inr ⟨_, ?_, hJx3⟩⟩
              refine List.IsPrefix.trans ?_ HS.out
              rw [HX.out]
              simp [rtsX, HXS.out]
          · have HB4 := Lib.hid (show Below wr.heap.size wr (wr.alloc (.cells a4.cs 44)) from (Below.refl _ _).alloc (Nat.le_refl _) _)
            obtain ⟨fn, tmps, assign, body, hy, hR⟩ := HY.out (rts (tl.take k) ++ [a1, a2, a3]) a4 (wr.alloc (.cells a4.cs 44)) (abides HJ.out (by simpa using HJm.out) HB4.out) (HL.out 3 hlt (by rw [HXX.out]; exact HX4.out) (by omega) _ rfl)
            have HRR := Lib.hid hR
            have hix := idx3 a1 a2 a3 a4
            clear hR
            gi_wp2
            refine HRR.out.mono ?_
            rintro e W3 (⟨rfl, hJ3, hk3⟩ | ⟨rfl, hJx3⟩)
            · clear hy HRR hix
              gi_wp2
              go_roundw
              case rel => exact ⟨4, by omega, by simp, by simpa using hJ3, (goB2 HNm.out (Nat.le_trans hn₀ HNm.out.size) HB4.out).trans hk3⟩
              case measure => simp [intOf]
            · clear hy HRR hix
              gi_wp2
              refine bodyPost_ret (results_none rfl _ _ _) rfl ?_
              refine ⟨⟨_, rfl⟩, .inr ⟨_, ?_, hJx3⟩⟩
              refine List.IsPrefix.trans ?_ HS.out
              rw [HX.out]
              simp [rtsX, HXS.out]
          · gi_wp2
            go_roundw
            case rel =>
              refine ⟨k + 1, by omega, by simp, ?_, HNm.out⟩
              rw [HX.out]
              have := HJm.out
              simpa [rtsX, HXS.out] using this
            case measure => simp [intOf]; omega
      · have HC := Lib.hid (slotsOf_no x ss qs (wr.alloc (.cells (x.cs ss qs) 37)) HR.out.len h4)
        have HX4 := Lib.hid h4
        clear h4
        gi_wp2_with fail
        refine ⟨trivial, ?_⟩
        refine (callsIn_wide.2 HC.out).mono ?_
        rintro e y1 ⟨rfl, hb⟩
        have HB2 := Lib.hid (goB HB1.out hb)
        clear hb d0 d1 d2 d3 d4 d5 d6 d7 HC
        gi_wp2_with (first
          | refine wpListIn_store_rowTo rfl 89 (.tmp 5) (.tmp 18) rfl rfl y1.heap.size zr20 rfl rfl 89 zr20 (Box.fresh y1 89 zr20) infoS rfl (one20 ⟨0, 0, false, false, false⟩ ⟨0, 0, false, false, false⟩ ⟨0, 0, false, false, false⟩ ⟨0, 0, false, false, false⟩) ?_)
        have hB3 : Below wr.heap.size wr ((y1.alloc (.cells zr20 89)).setRow y1.heap.size zr20) := (HB2.out.alloc HB2.out.size _).trans (setRow_below HB2.out.size _)
        go_roundw
        case rel =>
          refine ⟨k + 1, by omega, by simp, ?_, goB2 HN.out (Nat.le_trans hn₀ HN.out.size) hB3⟩
          rw [HX.out]
          simpa [rtsX, HX4.out] using abides HJ.out HJs.out hB3
        case measure => simp [intOf]; omega
    · have hlt' : ¬ (k : Int) < (tl.length : Int) := by omega
      have HE := Lib.hid (show k = tl.length by omega)
      gi_wp2
      go_end0
      refine ⟨⟨_, rfl⟩, .inl ?_⟩
      have := HJs.out
      rw [HE.out] at this
      simpa using this
end Go.Proofs.YtpahahonopiblaaDoor
