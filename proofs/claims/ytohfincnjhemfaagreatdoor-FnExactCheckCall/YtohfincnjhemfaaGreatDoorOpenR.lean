/-
  An argument that is a right, opened: its five fields.
-/
import Derived.Test.YtohfincnjhemfaaGreatDoorRows
import Derived.ProofKit
import Derived.OpenShut
import Derived.ShutString
import Derived.ChangeOld
import Derived.Lib.SmallJoins
namespace Go.Proofs.YtohfincnjhemfaaGreatDoor
open Go.ChangeShapes Go.WideShapes Go.ChangeAt Go.RowKit Go.Joins Go.Deep
set_option linter.unusedVariables false

section
variable {H : Type} {enc : TypeId × Value → H} {P : Program} {w : World} {base : Nat} {spare : Nat → Bool} {held : Bool}
theorem five_of {α : Type} {cs : Array α} (h : cs.size = 5) : ∃ c0 c1 c2 c3 c4, cs = #[c0, c1, c2, c3, c4] := by
  obtain ⟨l⟩ := cs
  match l, h with
  | [c0, c1, c2, c3, c4], _ => exact ⟨c0, c1, c2, c3, c4, rfl⟩
/-- Each field of a struct of one-cell fields reads by itself. -/
theorem field_reads {t : TypeId} {fs : Array Field} {fuel : Nat} {cs : Array Value} {x : DataW H × List MemPlace} (hs : P.underlying t = some (.struct fs)) (hone : oneCellFields P fs = true)
    (hf : DataW.trod enc P w base spare held fuel t (Value.cells (.agg cs)).toList = some x) (i : Nat) (f : Field) (c : Value) (hi : fs[i]? = some f) (hc : cs[i]? = some c) :
    ∃ n y, DataW.trod enc P w base spare held n f.type [c] = some y := by
  obtain ⟨xs, n, _, _, _, hlen, hg⟩ := DataW.trod_struct hs hf
  obtain ⟨o, k⟩ := hone_of hone i f hi
  have h1 := hg i f hi
  have hl : i < fs.size := (Array.getElem?_eq_some_iff.1 hi).1
  have hx : xs[i]? = some (xs[i]'(by omega)) := List.getElem?_eq_getElem (by omega)
  obtain ⟨hb, hcv⟩ := Array.getElem?_eq_some_iff.1 hc
  have e1 : ((Value.cells (.agg cs)).toList.drop i).take 1 = [c] := by
    have hb' : i < cs.toList.length := by simpa using hb
    have : (Value.cells (.agg cs)).toList = cs.toList := rfl
    rw [this, List.drop_eq_getElem_cons hb']
    simp [hcv]
  rw [o, k, e1, hx] at h1
  exact ⟨n, _, h1⟩
end

section
variable {H : Type} {enc : TypeId × Value → H} {w : World} {base : Nat} {spare : Nat → Bool} {held : Bool}
theorem openR_cells : Tryz.prog.cellsOf 96 = 5 := by kernel_rfl
set_option maxRecDepth 100000 in
/-- A right among the arguments is two numbers and three bools. -/
theorem open_rgt {r : Reach} {b0 : Nat} {v : Value} {d : DataW H} {p : List MemPlace} (hv : Value.okWide Tryz.prog w r b0 96 v) (h : DataW.Trod enc Tryz.prog w base spare held 96 v d p) :
    ∃ (t v' : Int) (a b c : Bool), v = .agg #[.int .i64 t, .int .i64 v', .bool a, .bool b, .bool c] := by
  obtain ⟨cs, rfl, hsz⟩ := okWide_struct Tryz.underlying96 hv
  obtain ⟨c0, c1, c2, c3, c4, rfl⟩ := five_of (hsz.trans openR_cells)
  obtain ⟨fuel, hf⟩ := h
  obtain ⟨n0, y0, g0⟩ := field_reads Tryz.underlying96 (by kernel_rfl) hf 0 _ c0 rfl rfl
  obtain ⟨n1, y1, g1⟩ := field_reads Tryz.underlying96 (by kernel_rfl) hf 1 _ c1 rfl rfl
  obtain ⟨n2, y2, g2⟩ := field_reads Tryz.underlying96 (by kernel_rfl) hf 2 _ c2 rfl rfl
  obtain ⟨n3, y3, g3⟩ := field_reads Tryz.underlying96 (by kernel_rfl) hf 3 _ c3 rfl rfl
  obtain ⟨n4, y4, g4⟩ := field_reads Tryz.underlying96 (by kernel_rfl) hf 4 _ c4 rfl rfl
  obtain ⟨a, e0, -, -⟩ := DataW.trod_int Tryz.underlying3 g0
  obtain ⟨b, e1, -, -⟩ := DataW.trod_int Tryz.underlying3 g1
  obtain ⟨c, e2, -⟩ := DataW.trod_bool Tryz.underlying4 g2
  obtain ⟨d', e3, -⟩ := DataW.trod_bool Tryz.underlying4 g3
  obtain ⟨e', e4, -⟩ := DataW.trod_bool Tryz.underlying4 g4
  simp only [List.cons.injEq, and_true] at e0 e1 e2 e3 e4
  subst e0 e1 e2 e3 e4
  exact ⟨a, b, c, d', e', rfl⟩
theorem openC_cells : Tryz.prog.cellsOf 24 = 5 := by kernel_rfl
set_option maxRecDepth 100000 in
/-- A call among the arguments is five numbers. -/
theorem open_call {r : Reach} {b0 : Nat} {v : Value} {d : DataW H} {p : List MemPlace} (hv : Value.okWide Tryz.prog w r b0 24 v) (h : DataW.Trod enc Tryz.prog w base spare held 24 v d p) :
    ∃ (a b c d e : Int), v = .agg #[.int .i64 a, .int .i64 b, .int .i64 c, .int .i64 d, .int .i64 e] := by
  obtain ⟨cs, rfl, hsz⟩ := okWide_struct Tryz.underlying24 hv
  obtain ⟨c0, c1, c2, c3, c4, rfl⟩ := five_of (hsz.trans openC_cells)
  obtain ⟨fuel, hf⟩ := h
  obtain ⟨n0, y0, g0⟩ := field_reads Tryz.underlying24 (by kernel_rfl) hf 0 _ c0 rfl rfl
  obtain ⟨n1, y1, g1⟩ := field_reads Tryz.underlying24 (by kernel_rfl) hf 1 _ c1 rfl rfl
  obtain ⟨n2, y2, g2⟩ := field_reads Tryz.underlying24 (by kernel_rfl) hf 2 _ c2 rfl rfl
  obtain ⟨n3, y3, g3⟩ := field_reads Tryz.underlying24 (by kernel_rfl) hf 3 _ c3 rfl rfl
  obtain ⟨n4, y4, g4⟩ := field_reads Tryz.underlying24 (by kernel_rfl) hf 4 _ c4 rfl rfl
  obtain ⟨a0, e0, -, -⟩ := DataW.trod_int Tryz.underlying3 g0
  obtain ⟨a1, e1, -, -⟩ := DataW.trod_int Tryz.underlying3 g1
  obtain ⟨a2, e2, -, -⟩ := DataW.trod_int Tryz.underlying3 g2
  obtain ⟨a3, e3, -, -⟩ := DataW.trod_int Tryz.underlying3 g3
  obtain ⟨a4, e4, -, -⟩ := DataW.trod_int Tryz.underlying3 g4
  simp only [List.cons.injEq, and_true] at e0 e1 e2 e3 e4
  subst e0 e1 e2 e3 e4
  exact ⟨a0, a1, a2, a3, a4, rfl⟩
end
end Go.Proofs.YtohfincnjhemfaaGreatDoor
