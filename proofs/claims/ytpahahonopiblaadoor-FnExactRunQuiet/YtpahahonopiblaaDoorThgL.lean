/-
  The table of kinds, as the program's own text lays it.
-/
import Derived.Test.YtpahahonopiblaaDoorThgA
import Derived.Stop.LaidErr
import Derived.ChangeArms
import Derived.ChangeSame
import Derived.Lib.LaidTab
namespace Go.Proofs.YtpahahonopiblaaDoor
open Go.RowKit Go.ChangeShapes
set_option linter.unusedVariables false
set_option maxRecDepth 100000
section
variable {H : Type} {enc : TypeId × Value → H} {w : World} {base : Nat} {sp : Nat → Bool} {held : Bool}
theorem str_of_trod {fuel : Nat} {cs : List Value} {bs : List UInt8} {p : List MemPlace} (h : DataW.trod enc Tryd.prog w base sp held fuel 9 cs = some (.lit (.string bs), p)) : cs = [.string ⟨bs.toArray⟩] := by
  cases fuel with
  | zero => simp [DataW.trod] at h
  | succ fuel =>
    simp only [DataW.trod, Tryd.underlying9] at h
    split at h <;> simp_all
    obtain ⟨-, h1, -⟩ := h
    subst h1
    simp
theorem int_of_trod {fuel : Nat} {cs : List Value} {n : Int} {p : List MemPlace} (h : DataW.trod enc Tryd.prog w base sp held fuel 3 cs = some (.lit (.int .i64 n), p)) : cs = [.int .i64 n] := by
  obtain ⟨z, hc, hz, -⟩ := DataW.trod_int Tryd.underlying3 h
  simp at hz
  rw [hz.1]
  exact hc
theorem cellsI : Tryd.prog.cellsOf 3 = 1 := by kernel_rfl
theorem cellsSt : Tryd.prog.cellsOf 9 = 1 := by kernel_rfl
theorem cellsSp : Tryd.prog.cellsOf 82 = 2 := by kernel_rfl
theorem cellsF : Tryd.prog.cellsOf 84 = 11 := by kernel_rfl
theorem cellsA : Tryd.prog.cellsOf 117 = 66 := by kernel_rfl
theorem span_of_trod {fuel : Nat} {cs : List Value} {a b : Int} {p : List MemPlace} (h : DataW.trod enc Tryd.prog w base sp held fuel 82 cs = some (.agg [.lit (.int .i64 a), .lit (.int .i64 b)], p)) : cs = [.int .i64 a, .int .i64 b] := by
  cases fuel with
  | zero => simp [DataW.trod] at h
  | succ fuel =>
    simp only [DataW.trod, Tryd.underlying82, cellsSp] at h
    split at h
    · rename_i hl
      obtain ⟨xs, hm, hx⟩ := Option.map_eq_some_iff.1 h
      simp only [List.mapM_cons, List.mapM_nil, cellsI, Option.bind_eq_bind, Option.bind_eq_some_iff, Option.pure_def, Option.some.injEq] at hm
      obtain ⟨y0, h0, ys, ⟨y1, h1, zs, rfl, rfl⟩, rfl⟩ := hm
      simp only [List.map_cons, List.map_nil, Prod.mk.injEq, DataW.agg.injEq, List.cons.injEq, and_true] at hx
      obtain ⟨⟨e0, e1⟩, -⟩ := hx
      obtain ⟨d0, q0⟩ := y0
      obtain ⟨d1, q1⟩ := y1
      simp only at e0 e1
      subst e0 e1
      match cs, hl with
      | [c0, c1], _ =>
        have i0 := int_of_trod h0
        have i1 := int_of_trod h1
        simp at i0 i1
        rw [i0, i1]
    · cases h
theorem row_of_trod {fuel : Nat} {cs : List Value} {nm : List UInt8} {a0 a1 b0 b1 c0 c1 d0 d1 e0 e1 : Int} {p : List MemPlace}
    (h : DataW.trod enc Tryd.prog w base sp held fuel 84 cs = some (.agg [.lit (.string nm), .agg [.lit (.int .i64 a0), .lit (.int .i64 a1)], .agg [.lit (.int .i64 b0), .lit (.int .i64 b1)], .agg [.lit (.int .i64 c0), .lit (.int .i64 c1)], .agg [.lit (.int .i64 d0), .lit (.int .i64 d1)], .agg [.lit (.int .i64 e0), .lit (.int .i64 e1)]], p)) :
    cs = [.string ⟨nm.toArray⟩, .int .i64 a0, .int .i64 a1, .int .i64 b0, .int .i64 b1, .int .i64 c0, .int .i64 c1, .int .i64 d0, .int .i64 d1, .int .i64 e0, .int .i64 e1] := by
  cases fuel with
  | zero => simp [DataW.trod] at h
  | succ fuel =>
    simp only [DataW.trod, Tryd.underlying84, cellsF] at h
    split at h
    · rename_i hl
      obtain ⟨xs, hm, hx⟩ := Option.map_eq_some_iff.1 h
      simp only [List.mapM_cons, List.mapM_nil, cellsSt, cellsSp, Option.bind_eq_bind, Option.bind_eq_some_iff, Option.pure_def, Option.some.injEq] at hm
      obtain ⟨y0, h0, _, ⟨y1, h1, _, ⟨y2, h2, _, ⟨y3, h3, _, ⟨y4, h4, _, ⟨y5, h5, _, rfl, rfl⟩, rfl⟩, rfl⟩, rfl⟩, rfl⟩, rfl⟩ := hm
      simp only [List.map_cons, List.map_nil, Prod.mk.injEq, DataW.agg.injEq, List.cons.injEq, and_true] at hx
      obtain ⟨⟨f0, f1, f2, f3, f4, f5⟩, -⟩ := hx
      obtain ⟨g0, q0⟩ := y0
      obtain ⟨g1, q1⟩ := y1
      obtain ⟨g2, q2⟩ := y2
      obtain ⟨g3, q3⟩ := y3
      obtain ⟨g4, q4⟩ := y4
      obtain ⟨g5, q5⟩ := y5
      simp only at f0 f1 f2 f3 f4 f5
      subst f0 f1 f2 f3 f4 f5
      match cs, hl with
      | [x0, x1, x2, x3, x4, x5, x6, x7, x8, x9, x10], _ =>
        have i0 := str_of_trod h0
        have i1 := span_of_trod h1
        have i2 := span_of_trod h2
        have i3 := span_of_trod h3
        have i4 := span_of_trod h4
        have i5 := span_of_trod h5
        simp at i0 i1 i2 i3 i4 i5
        simp [i0, i1, i2, i3, i4, i5]
    · cases h
end
theorem gK : Tryd.prog.globalNamed "loop.example/drawbar/impl.kindFields" = some 0 := by kernel_rfl
theorem gKType : (Tryd.prog.globals[(0 : Nat)]?).map (·.type) = some 117 := by kernel_rfl

set_option maxRecDepth 100000 in
/-- What lies in the table's place. -/
theorem kf_of {W : World} {rest : List (String × DataW Unit)} (h : laidMet Tryd.prog (("loop.example/drawbar/impl.kindFields", Rows.laid_loop_example_drawbar_impl_kindFields) :: rest) W) : KF W := by
  obtain ⟨ps, ⟨g, t, cs, fuel, p, q, hg, ht, hvar, hd, -, -⟩, -⟩ := h
  obtain rfl := Option.some.inj (gK.symm.trans hg)
  obtain rfl := Option.some.inj (gKType.symm.trans ht)
  cases fuel with
  | zero => simp [DataW.trod] at hd
  | succ fuel =>
    simp only [DataW.trod, Tryd.underlying117, cellsA, cellsF] at hd
    split at hd
    · rename_i hl
      obtain ⟨xs, hm, hx⟩ := Option.map_eq_some_iff.1 hd
      have hrow : ∀ k : Nat, k < 6 → ∀ j v, (rowOf k).cs[j]? = some v → cs.toList[k * 11 + j]? = some v := by
        rw [show List.range 6 = [0, 1, 2, 3, 4, 5] by rfl] at hm
        simp only [List.mapM_cons, List.mapM_nil, Option.bind_eq_bind, Option.bind_eq_some_iff, Option.pure_def, Option.some.injEq] at hm
        obtain ⟨y0, h0, _, ⟨y1, h1, _, ⟨y2, h2, _, ⟨y3, h3, _, ⟨y4, h4, _, ⟨y5, h5, _, rfl, rfl⟩, rfl⟩, rfl⟩, rfl⟩, rfl⟩, rfl⟩ := hm
        simp only [List.map_cons, List.map_nil, Prod.mk.injEq, DataW.agg.injEq, List.cons.injEq, and_true, Rows.laid_loop_example_drawbar_impl_kindFields] at hx
        obtain ⟨⟨f0, f1, f2, f3, f4, f5⟩, -⟩ := hx
        obtain ⟨g0, q0⟩ := y0
        obtain ⟨g1, q1⟩ := y1
        obtain ⟨g2, q2⟩ := y2
        obtain ⟨g3, q3⟩ := y3
        obtain ⟨g4, q4⟩ := y4
        obtain ⟨g5, q5⟩ := y5
        simp only at f0 f1 f2 f3 f4 f5
        subst f0 f1 f2 f3 f4 f5
        have r0 := row_of_trod h0
        have r1 := row_of_trod h1
        have r2 := row_of_trod h2
        have r3 := row_of_trod h3
        have r4 := row_of_trod h4
        have r5 := row_of_trod h5
        clear h0 h1 h2 h3 h4 h5
        have key : ∀ (k : Nat) (r : List Value), (cs.toList.drop (k * 11)).take 11 = r → ∀ j v, j < 11 → r[j]? = some v → cs.toList[k * 11 + j]? = some v := by
          intro k r hr j v hj hv
          rw [← hr] at hv
          simpa [List.getElem?_take, List.getElem?_drop, hj] using hv
        intro k hk j v hv
        have hj : j < 11 := by
          have := (Array.getElem?_eq_some_iff.1 hv).1
          simpa using this
        match k, hk with
        | 0, _ => exact key 0 _ r0 j v hj (by simpa [rowOf] using hv)
        | 1, _ => exact key 1 _ r1 j v hj (by simpa [rowOf] using hv)
        | 2, _ => exact key 2 _ r2 j v hj (by simpa [rowOf] using hv)
        | 3, _ => exact key 3 _ r3 j v hj (by simpa [rowOf] using hv)
        | 4, _ => exact key 4 _ r4 j v hj (by simpa [rowOf] using hv)
        | 5, _ => exact key 5 _ r5 j v hj (by simpa [rowOf] using hv)
      intro k hk j v hv
      have h1 := hrow k hk j v hv
      have h2 := World.var?_cell gK hvar (k * 11 + j)
      rw [h2]
      simpa using h1
    · cases hd
end Go.Proofs.YtpahahonopiblaaDoor
