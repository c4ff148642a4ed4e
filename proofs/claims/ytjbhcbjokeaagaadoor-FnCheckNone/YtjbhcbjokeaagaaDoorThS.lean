/-
  A right stored among the rights of things.
-/
import Derived.Test.YtjbhcbjokeaagaaDoorThP
namespace Go.Proofs.YtjbhcbjokeaagaaDoor
open Go.RowKit
set_option maxRecDepth 100000
set_option linter.unusedVariables false

/-- A right stored, cell by cell. -/
def set5 (W : World) (b o : Nat) (v : R5) : World := ((((W.setCell ⟨b, o, none⟩ (.int .i64 v.t)).setCell ⟨b, o + 1, none⟩ (.int .i64 v.v)).setCell ⟨b, o + 2, none⟩ (.bool v.r)).setCell ⟨b, o + 3, none⟩ (.bool v.w)).setCell ⟨b, o + 4, none⟩ (.bool v.k)
theorem set5_c0 (a1 a2 a3 a4 v : R5) : (((((sl20 a1 a2 a3 a4).setIfInBounds (0 * 5) (.int .i64 v.t)).setIfInBounds (0 * 5 + 1) (.int .i64 v.v)).setIfInBounds (0 * 5 + 2) (.bool v.r)).setIfInBounds (0 * 5 + 3) (.bool v.w)).setIfInBounds (0 * 5 + 4) (.bool v.k) = sl20 v a2 a3 a4 := by kernel_rfl
theorem set5_c1 (a1 a2 a3 a4 v : R5) : (((((sl20 a1 a2 a3 a4).setIfInBounds (1 * 5) (.int .i64 v.t)).setIfInBounds (1 * 5 + 1) (.int .i64 v.v)).setIfInBounds (1 * 5 + 2) (.bool v.r)).setIfInBounds (1 * 5 + 3) (.bool v.w)).setIfInBounds (1 * 5 + 4) (.bool v.k) = sl20 a1 v a3 a4 := by kernel_rfl
theorem set5_c2 (a1 a2 a3 a4 v : R5) : (((((sl20 a1 a2 a3 a4).setIfInBounds (2 * 5) (.int .i64 v.t)).setIfInBounds (2 * 5 + 1) (.int .i64 v.v)).setIfInBounds (2 * 5 + 2) (.bool v.r)).setIfInBounds (2 * 5 + 3) (.bool v.w)).setIfInBounds (2 * 5 + 4) (.bool v.k) = sl20 a1 a2 v a4 := by kernel_rfl
theorem set5_c3 (a1 a2 a3 a4 v : R5) : (((((sl20 a1 a2 a3 a4).setIfInBounds (3 * 5) (.int .i64 v.t)).setIfInBounds (3 * 5 + 1) (.int .i64 v.v)).setIfInBounds (3 * 5 + 2) (.bool v.r)).setIfInBounds (3 * 5 + 3) (.bool v.w)).setIfInBounds (3 * 5 + 4) (.bool v.k) = sl20 a1 a2 a3 v := by kernel_rfl
theorem set5_b0 {W : World} {b : Nat} {T : TypeId} {a1 a2 a3 a4 : R5} (bx : Box W b T (sl20 a1 a2 a3 a4)) (v : R5) : Box (set5 W b (0 * 5) v) b T (sl20 v a2 a3 a4) := by
  have h := ((((bx.put (0 * 5) (.int .i64 v.t)).put (0 * 5 + 1) (.int .i64 v.v)).put (0 * 5 + 2) (.bool v.r)).put (0 * 5 + 3) (.bool v.w)).put (0 * 5 + 4) (.bool v.k)
  rw [set5_c0] at h
  unfold set5
  exact h
theorem set5_b1 {W : World} {b : Nat} {T : TypeId} {a1 a2 a3 a4 : R5} (bx : Box W b T (sl20 a1 a2 a3 a4)) (v : R5) : Box (set5 W b (1 * 5) v) b T (sl20 a1 v a3 a4) := by
  have h := ((((bx.put (1 * 5) (.int .i64 v.t)).put (1 * 5 + 1) (.int .i64 v.v)).put (1 * 5 + 2) (.bool v.r)).put (1 * 5 + 3) (.bool v.w)).put (1 * 5 + 4) (.bool v.k)
  rw [set5_c1] at h
  unfold set5
  exact h
theorem set5_b2 {W : World} {b : Nat} {T : TypeId} {a1 a2 a3 a4 : R5} (bx : Box W b T (sl20 a1 a2 a3 a4)) (v : R5) : Box (set5 W b (2 * 5) v) b T (sl20 a1 a2 v a4) := by
  have h := ((((bx.put (2 * 5) (.int .i64 v.t)).put (2 * 5 + 1) (.int .i64 v.v)).put (2 * 5 + 2) (.bool v.r)).put (2 * 5 + 3) (.bool v.w)).put (2 * 5 + 4) (.bool v.k)
  rw [set5_c2] at h
  unfold set5
  exact h
theorem set5_b3 {W : World} {b : Nat} {T : TypeId} {a1 a2 a3 a4 : R5} (bx : Box W b T (sl20 a1 a2 a3 a4)) (v : R5) : Box (set5 W b (3 * 5) v) b T (sl20 a1 a2 a3 v) := by
  have h := ((((bx.put (3 * 5) (.int .i64 v.t)).put (3 * 5 + 1) (.int .i64 v.v)).put (3 * 5 + 2) (.bool v.r)).put (3 * 5 + 3) (.bool v.w)).put (3 * 5 + 4) (.bool v.k)
  rw [set5_c3] at h
  unfold set5
  exact h
theorem set5_box {W : World} {b : Nat} {T : TypeId} {a1 a2 a3 a4 : R5} (bx : Box W b T (sl20 a1 a2 a3 a4)) (k : Nat) (hk : k < 4) (v : R5) : ∃ c1 c2 c3 c4, Box (set5 W b (k * 5) v) b T (sl20 c1 c2 c3 c4) := by
  have hc : k = 0 ∨ k = 1 ∨ k = 2 ∨ k = 3 := by omega
  rcases hc with e | e | e | e
  · rw [e]; exact ⟨v, a2, a3, a4, set5_b0 bx v⟩
  · rw [e]; exact ⟨a1, v, a3, a4, set5_b1 bx v⟩
  · rw [e]; exact ⟨a1, a2, v, a4, set5_b2 bx v⟩
  · rw [e]; exact ⟨a1, a2, a3, v, set5_b3 bx v⟩
theorem set5_other {W : World} {b b' o : Nat} {T : TypeId} {cs : Array Value} (bx : Box W b' T cs) (hn : b' ≠ b) (v : R5) : Box (set5 W b o v) b' T cs := by
  unfold set5
  exact ((((bx.other (by exact hn) _).other (by exact hn) _).other (by exact hn) _).other (by exact hn) _).other (by exact hn) _
theorem set5_below {W : World} {b o n0 : Nat} (hb : n0 ≤ b) (v : R5) : Below n0 W (set5 W b o v) := by
  unfold set5
  exact (((((Below.refl n0 W).setCell (by exact hb) _).setCell (by exact hb) _).setCell (by exact hb) _).setCell (by exact hb) _).setCell (by exact hb) _
theorem set5_size (W : World) (b o : Nat) (v : R5) : (set5 W b o v).heap.size = W.heap.size := by simp [set5, World.setCell]
theorem ThO.set5 {n0 : Nat} {W : World} {x : T8} {s q : Sl} (h : ThO n0 W x s q) {b : Nat} {a1 a2 a3 a4 : R5} (bx : Box W b 38 (sl20 a1 a2 a3 a4)) (k : Nat) (hk : k < 4) (v : R5) :
    ∃ sl, sl.length = x.slots.length ∧ ThO n0 (Go.Proofs.YtjbhcbjokeaagaaDoor.set5 W b (k * 5) v) { x with slots := sl } s q := by
  obtain ⟨h1, h2, h3, h4⟩ := h
  have hown : (Go.Proofs.YtjbhcbjokeaagaaDoor.set5 W b (k * 5) v).ownsRow n0 3 1 (.slice q.a q.n q.c) q.n (x.queue.map fun n => Value.int .i64 n) := by
    refine ⟨h3, ?_⟩
    rcases h4 with h4 | ⟨g, cap, cur, e, hb, hg, rest⟩
    · exact .inl h4
    · exact .inr ⟨g, cap, cur, e, hb, set5_other (show Box W g 3 cur from hg) (Box.ne (show Box W g 3 cur from hg) bx (by decide)) v, rest⟩
  rcases h1 with ⟨e1, e2⟩ | ⟨b', d1, d2, d3, d4, hb', e, bx', hx⟩
  · exact ⟨[], by rw [e2], .inl ⟨e1, rfl⟩, h2, hown⟩
  · by_cases hbb : b' = b
    · subst hbb
      obtain ⟨c1, c2, c3, c4, hc⟩ := set5_box bx k hk v
      exact ⟨[c1, c2, c3, c4], by rw [hx]; rfl, .inr ⟨b', c1, c2, c3, c4, hb', e, hc, rfl⟩, h2, hown⟩
    · exact ⟨[d1, d2, d3, d4], by rw [hx], .inr ⟨b', d1, d2, d3, d4, hb', e, set5_other bx' hbb v, rfl⟩, h2, hown⟩
section
variable {w W W' : World} {r : Nat} {a : Option Addr} {len cap : Nat} {zs : List Int} {p p' : Nat} {L : List Blk3}
theorem St.set5 (h : St w r a len cap zs p L W) {b o : Nat} (hb : w.heap.size ≤ b) (hn : ∀ t ∈ L, t.1 ≠ b) (v : R5) : St w r a len cap zs p L (Go.Proofs.YtjbhcbjokeaagaaDoor.set5 W b o v) := by
  have hbl : Below w.heap.size W (Go.Proofs.YtjbhcbjokeaagaaDoor.set5 W b o v) := set5_below hb v
  refine ⟨⟨⟨hbl.os.trans h.1.1.os, hbl.tape.trans h.1.1.tape, hbl.output.trans h.1.1.output, Nat.le_trans h.1.1.size hbl.size, fun k hk hkr => (hbl.block k hk).trans (h.1.1.block k hk hkr)⟩, fun t ht => ⟨set5_other (h.1.2 t ht).1 (hn t ht) v, (h.1.2 t ht).2⟩⟩, h.2.1.keepB h.2.2.1 h.2.2.2 hbl, h.2.2⟩
/-- Beside a call that only made memory and turned one own row of numbers. -/
theorem St.own (h : St w r a len cap zs p L W) (hbl : Below w.heap.size W W') (hk : ∀ t ∈ L, Box W' t.1 t.2.1 t.2.2) : St w r a len cap zs p L W' :=
  ⟨⟨⟨hbl.os.trans h.1.1.os, hbl.tape.trans h.1.1.tape, hbl.output.trans h.1.1.output, Nat.le_trans h.1.1.size hbl.size, fun k hk hkr => (hbl.block k hk).trans (h.1.1.block k hk hkr)⟩, fun t ht => ⟨hk t ht, (h.1.2 t ht).2⟩⟩, h.2.1.keepB h.2.2.1 h.2.2.2 hbl, h.2.2⟩
end
end Go.Proofs.YtjbhcbjokeaagaaDoor
