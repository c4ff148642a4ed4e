/-
  Things among the arguments, opened.
-/
import Derived.Test.YtpahahonopiblaaDoorTab
import Derived.ProofKit
import Derived.OpenShut
import Derived.ShutString
import Derived.ChangeOld
import Derived.Lib.SmallJoins
import Derived.Deep.Slices
namespace Go.Proofs.YtpahahonopiblaaDoor
open Go.ChangeShapes Go.WideShapes Go.ChangeAt Go.RowKit Go.Joins Go.Deep
set_option linter.unusedVariables false

section
variable {H : Type} {enc : TypeId × Value → H} {P : Program} {w : World} {base : Nat} {spare : Nat → Bool} {held : Bool}
/-- A field of one cell of a struct reads by itself. -/
theorem fieldL_reads {t : TypeId} {fs : Array Field} {fuel : Nat} {cs : List Value} {x : DataW H × List MemPlace} (hs : P.underlying t = some (.struct fs))
    (hf : DataW.trod enc P w base spare held fuel t cs = some x) (i : Nat) (f : Field) (c : List Value) (hi : fs[i]? = some f) (hc : (cs.drop f.offset).take (P.cellsOf f.type) = c) :
    ∃ n y, DataW.trod enc P w base spare held n f.type c = some y := by
  obtain ⟨xs, n, _, _, _, hlen, hg⟩ := DataW.trod_struct hs hf
  have h1 := hg i f hi
  have hl : i < fs.size := (Array.getElem?_eq_some_iff.1 hi).1
  have hx : xs[i]? = some (xs[i]'(by omega)) := List.getElem?_eq_getElem (by omega)
  rw [hc, hx] at h1
  exact ⟨n, _, h1⟩
theorem fieldL_len {t : TypeId} {fs : Array Field} {fuel : Nat} {cs : List Value} {x : DataW H × List MemPlace} (hs : P.underlying t = some (.struct fs))
    (hf : DataW.trod enc P w base spare held fuel t cs = some x) : cs.length = P.cellsOf t := by
  obtain ⟨xs, n, _, _, hl, _⟩ := DataW.trod_struct hs hf
  exact hl
end

theorem len5 {α : Type} {l : List α} (h : l.length = 5) : ∃ a b c d e, l = [a, b, c, d, e] := by
  match l, h with
  | [a, b, c, d, e], _ => exact ⟨a, b, c, d, e, rfl⟩
theorem len8 {α : Type} {l : List α} (h : l.length = 8) : ∃ a b c d e f g i, l = [a, b, c, d, e, f, g, i] := by
  match l, h with
  | [a, b, c, d, e, f, g, i], _ => exact ⟨a, b, c, d, e, f, g, i, rfl⟩
theorem len2 {α : Type} {l : List α} (h : l.length = 2) : ∃ a b, l = [a, b] := by
  match l, h with
  | [a, b], _ => exact ⟨a, b, rfl⟩

section
variable {w : World}
/-- Cells that are read one behind the other. -/
theorem cells_at {base n : Nat} {a : Addr} {cs : List Value} (h : w.cells? base a n = some cs) : ∀ j v, cs[j]? = some v → w.cell? (a.add j) = some v := by
  intro j v hv
  unfold World.cells? at h
  split at h
  · have hlen : cs.length = n := by simpa using mapM_some_length h
    have hj : j < n := by rw [← hlen]; exact (List.getElem?_eq_some_iff.1 hv).1
    have := mapM_some_get h j j (by simp [hj])
    rw [this]; exact hv
  · cases h
theorem spot_none {a : Addr} {v : Value} (h : w.cell? a = some v) : a.spot = none := by
  unfold World.cell? at h
  split at h
  · split at h
    · cases h
    · rename_i hs; simpa using hs
  · cases h
theorem at_of {a : Addr} (hs : a.spot = none) {base n i : Nat} {x : Array Value} (h : w.cells? base (a.add (i * n)) n = some x.toList) : At w a.block (a.off + i * n) x := by
  intro j v hv
  have := cells_at h j v (by simpa using hv)
  obtain ⟨b, o, s⟩ := a
  simp only at hs
  subst hs
  have e : ((⟨b, o, none⟩ : Addr).add (i * n)).add j = ⟨b, o + i * n + j, none⟩ := by
    unfold Addr.add
    split <;> split <;> simp_all <;> omega
  rw [e] at this
  exact this
end

section
variable {H : Type} {enc : TypeId × Value → H} {w : World} {base : Nat} {spare : Nat → Bool} {held : Bool}
theorem cellsR : Tryd.prog.cellsOf 142 = 5 := by kernel_rfl
/-- Five cells that read as a right. -/
theorem rgt_cells {fuel : Nat} {cs : List Value} {x : DataW H × List MemPlace} (hf : DataW.trod enc Tryd.prog w base spare held fuel 142 cs = some x) : ∃ r : R5, cs = r.cs.toList := by
  obtain ⟨c0, c1, c2, c3, c4, rfl⟩ := len5 ((fieldL_len Tryd.underlying142 hf).trans cellsR)
  obtain ⟨n0, y0, g0⟩ := fieldL_reads Tryd.underlying142 hf 0 _ [c0] rfl (by kernel_rfl)
  obtain ⟨n1, y1, g1⟩ := fieldL_reads Tryd.underlying142 hf 1 _ [c1] rfl (by kernel_rfl)
  obtain ⟨n2, y2, g2⟩ := fieldL_reads Tryd.underlying142 hf 2 _ [c2] rfl (by kernel_rfl)
  obtain ⟨n3, y3, g3⟩ := fieldL_reads Tryd.underlying142 hf 3 _ [c3] rfl (by kernel_rfl)
  obtain ⟨n4, y4, g4⟩ := fieldL_reads Tryd.underlying142 hf 4 _ [c4] rfl (by kernel_rfl)
  obtain ⟨a, e0, -, -⟩ := DataW.trod_int Tryd.underlying3 g0
  obtain ⟨b, e1, -, -⟩ := DataW.trod_int Tryd.underlying3 g1
  obtain ⟨c, e2, -⟩ := DataW.trod_bool Tryd.underlying4 g2
  obtain ⟨d, e3, -⟩ := DataW.trod_bool Tryd.underlying4 g3
  obtain ⟨e, e4, -⟩ := DataW.trod_bool Tryd.underlying4 g4
  simp only [List.cons.injEq, and_true] at e0 e1 e2 e3 e4
  subst e0 e1 e2 e3 e4
  exact ⟨⟨a, b, c, d, e⟩, rfl⟩

/-- A list of what is there, one each. -/
theorem list_of {α : Type} (d : α) {n : Nat} {p : Nat → α → Prop} (h : ∀ i, i < n → ∃ x, p i x) : ∃ l : List α, l.length = n ∧ ∀ i (hi : i < l.length), p i l[i] := by
  have h' : ∀ i, ∃ x, i < n → p i x := fun i => by
    by_cases hi : i < n
    · obtain ⟨x, hx⟩ := h i hi; exact ⟨x, fun _ => hx⟩
    · exact ⟨d, fun h => absurd h hi⟩
  obtain ⟨f, hf⟩ := Classical.axiomOfChoice h'
  refine ⟨(List.range n).map f, by simp, fun i hi => ?_⟩
  simp at hi
  simpa using hf i hi
/-- A slice of rights among what came in. -/
theorem open_rs {fuel : Nat} {cs : List Value} {x : DataW H × List MemPlace} (hf : DataW.trod enc Tryd.prog w base spare held fuel 70 cs = some x) :
    ∃ (s : Sl) (l : List R5), cs = [.slice s.a s.n s.c] ∧ HasR w s l ∧ s.n ≤ maxLen := by
  rcases open_slice Tryd.underlying70 hf with ⟨rfl, _⟩ | ⟨a, len, cap, m, n, D, Pl, rfl, _, hlc, hcm, hm, _, hall⟩
  · exact ⟨⟨none, 0, 0⟩, [], rfl, ⟨rfl, Nat.le_refl _, .inl rfl⟩, Nat.zero_le _⟩
  · have hlm : len ≤ m := by rw [hm]; split <;> omega
    rw [cellsR] at hall
    obtain ⟨l, hl, hp⟩ := list_of (⟨0, 0, false, false, false⟩ : R5) (n := len) (p := fun i r => w.cells? base (a.add (i * 5)) 5 = some r.cs.toList) (fun i hi => by
      obtain ⟨cs', h1, h2⟩ := hall i (by omega)
      obtain ⟨r, rfl⟩ := rgt_cells h2
      exact ⟨r, h1⟩)
    refine ⟨⟨some a, len, cap⟩, l, rfl, ⟨by simp [hl], hlc, ?_⟩, Nat.le_trans hlc hcm⟩
    by_cases h0 : l = []
    · left; simp [h0]
    · right
      have hpos : 0 < l.length := List.length_pos_iff.2 h0
      have hs : a.spot = none := by
        have := cells_at (hp 0 hpos) 0 _ rfl
        have e : ((a.add (0 * 5)).add 0) = a := by simp [Addr.add]
        rw [e] at this
        exact spot_none this
      obtain ⟨b, o, sp⟩ := a
      simp only at hs
      subst hs
      refine ⟨b, o, rfl, fun i x hx => ?_⟩
      simp only [List.getElem?_map, Option.map_eq_some_iff] at hx
      obtain ⟨r, hr, rfl⟩ := hx
      obtain ⟨hi, rfl⟩ := List.getElem?_eq_some_iff.1 hr
      exact at_of rfl (hp i hi)

/-- A slice of numbers among what came in. -/
theorem open_qs {fuel : Nat} {cs : List Value} {x : DataW H × List MemPlace} (hf : DataW.trod enc Tryd.prog w base spare held fuel 35 cs = some x) :
    ∃ (s : Sl) (l : List Int), cs = [.slice s.a s.n s.c] ∧ HasQ w s l ∧ s.n ≤ maxLen := by
  rcases open_slice1 Tryd.underlying35 (by kernel_rfl) hf with ⟨rfl, _⟩ | ⟨a, len, cap, m, n, V, D, Pl, rfl, _, hlc, hcm, hm, _, hall⟩
  · exact ⟨⟨none, 0, 0⟩, [], rfl, ⟨rfl, Nat.le_refl _, .inl rfl⟩, Nat.zero_le _⟩
  · have hlm : len ≤ m := by rw [hm]; split <;> omega
    obtain ⟨l, hl, hp⟩ := list_of (0 : Int) (n := len) (p := fun i r => w.cell? (a.add i) = some (.int .i64 r)) (fun i hi => by
      obtain ⟨h1, h2⟩ := hall i (by omega)
      obtain ⟨z, e, -, -⟩ := DataW.trod_int Tryd.underlying3 h2
      simp only [List.cons.injEq, and_true] at e
      exact ⟨z, by rw [h1, e]⟩)
    refine ⟨⟨some a, len, cap⟩, l, rfl, ⟨by simp [hl], hlc, ?_⟩, Nat.le_trans hlc hcm⟩
    by_cases h0 : l = []
    · left; simp [h0]
    · right
      have hpos : 0 < l.length := List.length_pos_iff.2 h0
      have hs : a.spot = none := by
        have := hp 0 hpos
        have e : a.add 0 = a := by simp [Addr.add]
        rw [e] at this
        exact spot_none this
      obtain ⟨b, o, sp⟩ := a
      simp only at hs
      subst hs
      refine ⟨b, o, rfl, fun i x hx j v hv => ?_⟩
      simp only [List.getElem?_map, Option.map_eq_some_iff] at hx
      obtain ⟨r, hr, rfl⟩ := hx
      obtain ⟨hi, rfl⟩ := List.getElem?_eq_some_iff.1 hr
      have hj : j = 0 := by
        have := (Array.getElem?_eq_some_iff.1 hv).1
        simp at this
        exact this
      subst hj
      simp at hv
      subst hv
      have := hp i hi
      have e : (⟨b, o, none⟩ : Addr).add i = ⟨b, o + i * 1 + 0, none⟩ := by
        unfold Addr.add
        split <;> simp_all
      rw [e] at this
      exact this

theorem cellsT : Tryd.prog.cellsOf 72 = 8 := by kernel_rfl
theorem cellsL : Tryd.prog.cellsOf 51 = 2 := by kernel_rfl
/-- Eight cells that read as a thing. -/
theorem thg_cells {fuel : Nat} {cs : List Value} {x : DataW H × List MemPlace} (hf : DataW.trod enc Tryd.prog w base spare held fuel 72 cs = some x) :
    ∃ (t : T8) (s q : Sl), cs = (t.cs s q).toList ∧ HasR w s t.slots ∧ HasQ w q t.queue ∧ s.n ≤ maxLen ∧ q.n ≤ maxLen := by
  obtain ⟨c0, c1, c2, c3, c4, c5, c6, c7, rfl⟩ := len8 ((fieldL_len Tryd.underlying72 hf).trans cellsT)
  obtain ⟨n0, y0, g0⟩ := fieldL_reads Tryd.underlying72 hf 0 _ [c0] rfl (by kernel_rfl)
  obtain ⟨n1, y1, g1⟩ := fieldL_reads Tryd.underlying72 hf 1 _ [c1, c2] rfl (by kernel_rfl)
  obtain ⟨n3, y3, g3⟩ := fieldL_reads Tryd.underlying72 hf 2 _ [c3] rfl (by kernel_rfl)
  obtain ⟨n4, y4, g4⟩ := fieldL_reads Tryd.underlying72 hf 3 _ [c4] rfl (by kernel_rfl)
  obtain ⟨n5, y5, g5⟩ := fieldL_reads Tryd.underlying72 hf 4 _ [c5] rfl (by kernel_rfl)
  obtain ⟨n6, y6, g6⟩ := fieldL_reads Tryd.underlying72 hf 5 _ [c6] rfl (by kernel_rfl)
  obtain ⟨n7, y7, g7⟩ := fieldL_reads Tryd.underlying72 hf 6 _ [c7] rfl (by kernel_rfl)
  obtain ⟨m1, z1, k1⟩ := fieldL_reads Tryd.underlying51 g1 0 _ [c1] rfl (by kernel_rfl)
  obtain ⟨m2, z2, k2⟩ := fieldL_reads Tryd.underlying51 g1 1 _ [c2] rfl (by kernel_rfl)
  obtain ⟨kind, e0, -, -⟩ := DataW.trod_int Tryd.underlying3 g0
  obtain ⟨sec, e1, -, -⟩ := DataW.trod_int Tryd.underlying3 k1
  obtain ⟨vou, e2, -, -⟩ := DataW.trod_int Tryd.underlying3 k2
  obtain ⟨vers, e3, -, -⟩ := DataW.trod_int Tryd.underlying3 g3
  obtain ⟨num, e4, -, -⟩ := DataW.trod_int Tryd.underlying3 g4
  obtain ⟨s, l, e5, hs, hsn⟩ := open_rs g5
  obtain ⟨q, k, e6, hq, hqn⟩ := open_qs g6
  obtain ⟨to, e7, -, -⟩ := DataW.trod_int Tryd.underlying3 g7
  simp only [List.cons.injEq, and_true] at e0 e1 e2 e3 e4 e5 e6 e7
  subst e0 e1 e2 e3 e4 e5 e6 e7
  exact ⟨⟨kind, sec, vou, vers, num, l, k, to⟩, s, q, rfl, hs, hq, hsn, hqn⟩
set_option maxRecDepth 100000 in
/-- A thing among the arguments. -/
theorem open_thg {r : Reach} {b0 : Nat} {v : Value} {d : DataW H} {p : List MemPlace} (hv : Value.okWide Tryd.prog w r b0 72 v) (h : DataW.Trod enc Tryd.prog w base spare held 72 v d p) :
    ∃ (t : T8) (s q : Sl), v = t.val s q ∧ HasR w s t.slots ∧ HasQ w q t.queue ∧ s.n ≤ maxLen ∧ q.n ≤ maxLen := by
  obtain ⟨cs, rfl, hsz⟩ := okWide_struct Tryd.underlying72 hv
  obtain ⟨fuel, hf⟩ := h
  obtain ⟨t, s, q, e, h1, h2, h3, h4⟩ := thg_cells hf
  refine ⟨t, s, q, ?_, h1, h2, h3, h4⟩
  have : cs = t.cs s q := by
    have e' : cs.toList = (t.cs s q).toList := e
    exact Array.toList_inj.1 e'
  rw [this]
/-- A slice of things among the arguments. -/
theorem open_ts {fuel : Nat} {cs : List Value} {x : DataW H × List MemPlace} (hf : DataW.trod enc Tryd.prog w base spare held fuel 22 cs = some x) :
    ∃ (s : Sl) (l : List T8), cs = [.slice s.a s.n s.c] ∧ HasT w s l ∧ s.n ≤ maxLen ∧ (∀ i (h : i < l.length), l[i].slots.length ≤ maxLen ∧ l[i].queue.length ≤ maxLen) := by
  rcases open_slice Tryd.underlying22 hf with ⟨rfl, _⟩ | ⟨a, len, cap, m, n, D, Pl, rfl, _, hlc, hcm, hm, _, hall⟩
  · exact ⟨⟨none, 0, 0⟩, [], rfl, ⟨rfl, Nat.le_refl _, .inl rfl⟩, Nat.zero_le _, fun i h => absurd h (by simp)⟩
  · have hlm : len ≤ m := by rw [hm]; split <;> omega
    rw [cellsT] at hall
    obtain ⟨l, hl, hp⟩ := list_of (⟨0, 0, 0, 0, 0, [], [], 0⟩ : T8) (n := len) (p := fun i t => ∃ s q : Sl, w.cells? base (a.add (i * 8)) 8 = some (t.cs s q).toList ∧ HasR w s t.slots ∧ HasQ w q t.queue ∧ s.n ≤ maxLen ∧ q.n ≤ maxLen) (fun i hi => by
      obtain ⟨cs', h1, h2⟩ := hall i (by omega)
      obtain ⟨t, s, q, rfl, k1, k2, k3, k4⟩ := thg_cells h2
      exact ⟨t, s, q, h1, k1, k2, k3, k4⟩)
    refine ⟨⟨some a, len, cap⟩, l, rfl, ⟨hl.symm, hlc, ?_⟩, Nat.le_trans hlc hcm, fun i hi => ?_⟩
    · by_cases h0 : l = []
      · exact .inl h0
      · right
        have hpos : 0 < l.length := List.length_pos_iff.2 h0
        have hs : a.spot = none := by
          obtain ⟨s, q, h1, _⟩ := hp 0 hpos
          have := cells_at h1 0 _ rfl
          have e : ((a.add (0 * 8)).add 0) = a := by simp [Addr.add]
          rw [e] at this
          exact spot_none this
        obtain ⟨b, o, sp⟩ := a
        simp only at hs
        subst hs
        refine ⟨b, o, rfl, fun i hi => ?_⟩
        obtain ⟨s, q, h1, k1, k2, _⟩ := hp i hi
        exact ⟨s, q, k1, k2, at_of rfl h1⟩
    · obtain ⟨s, q, h1, k1, k2, k3, k4⟩ := hp i hi
      rw [← k1.len, ← k2.len]
      exact ⟨k3, k4⟩
end
end Go.Proofs.YtpahahonopiblaaDoor
