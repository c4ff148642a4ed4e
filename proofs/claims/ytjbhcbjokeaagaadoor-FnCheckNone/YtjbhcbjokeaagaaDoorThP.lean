/-
  A number more behind the numbers of a thing.
-/
import Derived.Test.YtjbhcbjokeaagaaDoorThO
import Derived.Test.YtjbhcbjokeaagaaDoorThgN
import Derived.Deep.RegionWith
import Derived.Deep.RegionLaw
namespace Go.Proofs.YtjbhcbjokeaagaaDoor
open Go.RowKit
set_option maxRecDepth 100000
set_option linter.unusedVariables false

/-- What a drawn thing leaves. -/
def ThPost (r : Nat) (a : Option Addr) (len cap : Nat) (zs : List Int) (p : Nat) (w : World) (e : Ending) (w' : World) : Prop :=
  ∃ (x : T8) (s q : Sl), e = .returned (x.val s q) ∧ ThO w.heap.size w' x s q ∧ x.queue.length ≤ 3 ∧ 1 ≤ x.kind ∧ x.kind ≤ 5 ∧ ∃ p', p' ≤ p + 20 ∧ Rd w' r a len cap zs p' ∧ Grew r w w'
theorem putNum (x : T8) (s q : Sl) (n : Int) : (x.cs s q).setIfInBounds 4 (.int .i64 n) = ({ x with num := n } : T8).cs s q := by simp
theorem putVers (x : T8) (s q : Sl) (n : Int) : (x.cs s q).setIfInBounds 3 (.int .i64 n) = ({ x with vers := n } : T8).cs s q := by simp
theorem putKind (x : T8) (s q : Sl) (n : Int) : (x.cs s q).setIfInBounds 0 (.int .i64 n) = ({ x with kind := n } : T8).cs s q := by simp
theorem putQ (x : T8) (s q : Sl) (l : List Int) (a : Option Addr) (n c : Nat) : (x.cs s q).setIfInBounds 6 (.slice a n c) = ({ x with queue := l } : T8).cs s ⟨a, n, c⟩ := by simp

/-- An append whose run is known, as one step of a region that draws. -/
theorem step_append_run {P : Program} {ops : Array Oper} {o : Oper} {a : Act} {w : World} {K : Act → World → Prop} {Q : Exit → Act → World → Prop} {E : Prop} (hgd : o.guard = none) (s x : Operand) (t : TypeId)
    (ho : o.op = .call { callee := .builtin .append, args := #[s, x], argTypes := #[t, t] }) (vs vx : Value) (hs : a.eval s = vs) (hx : a.eval x = vx) (v' : Value) (w' : World)
    (hr : (Builtin.append_ #[t, t] o.type #[vs, vx]).run P w = .ok v' w') (h : K (a.put o.dst v') w') :
    if Region.wanted o (yielded ops a.tmps) = true then Oper.wp P o a w K Q else E := by
  have hw : Region.wanted o (yielded ops a.tmps) = true := by simp [Region.wanted, hgd]
  rw [if_pos hw]
  unfold Oper.wp
  simp [execOp, ho, resolve, invoke, builtin, hs, hx, hr, Result.andThen]
  exact h
theorem infoI : (Tryd.prog.info? 3).map (fun i => (i.zero, i.size, i.bytes)) = some (some (.int .i64 0), 1, 8) := by kernel_rfl
/-- A number more behind the numbers of a thing. -/
theorem append_q (n0 : Nat) (W : World) (x : T8) (s q : Sl) (h : ThO n0 W x s q) (hl : x.queue.length ≤ 1000) (hn : n0 ≤ W.heap.size) (z : Int) (ty : TypeId) :
    ∃ g c w', (Builtin.append_ #[34, 34] ty #[.slice q.a q.n q.c, .slice (some ⟨W.heap.size, 0, none⟩) 1 1]).run Tryd.prog (W.alloc (.cells #[.int .i64 z] 3)) = .ok (.slice (some ⟨g, 0, none⟩) (q.n + 1) c) w' ∧
      ThO n0 w' { x with queue := x.queue ++ [z] } s ⟨some ⟨g, 0, none⟩, q.n + 1, c⟩ ∧ (∀ b T cs, T ≠ 3 → Box W b T cs → Box w' b T cs) ∧ Below n0 W w' ∧ W.heap.size ≤ w'.heap.size := by
  obtain ⟨i0, hi, hz0, hz1, hz2⟩ : ∃ i, Tryd.prog.info? 3 = some i ∧ i.zero = some (.int .i64 0) ∧ i.size = 1 ∧ i.bytes = 8 := by
    have h := infoI
    cases hq : Tryd.prog.info? 3 with
    | none => simp [hq] at h
    | some i => simp [hq] at h; exact ⟨i, rfl, h⟩
  have hal : Below W.heap.size W (W.alloc (.cells #[.int .i64 z] 3)) := (Below.refl _ _).alloc (Nat.le_refl _) _
  have hown := (h.stay hal).2.2
  have hqn := h.2.1
  obtain ⟨v', w', hr, h2, h3, -⟩ := run_append_own (P := Tryd.prog) (W.alloc (.cells #[.int .i64 z] 3)) n0 34 ty 3 i0 (.int .i64 0) 1 8 Tryd.underlying34 hi hz0 hz1 hz2 rfl (by decide)
    (.slice q.a q.n q.c) q.n _ hown ⟨W.heap.size, 0, none⟩ 1 1 [.int .i64 z] rfl
    (fun j u hj => by
      obtain rfl : j = 0 := by have := (List.getElem?_eq_some_iff.1 hj).1; simp at this; omega
      simp at hj
      subst hj
      exact (Box.fresh W 3 #[.int .i64 z]).cell 0 _ rfl)
    (by simp [Value.oneCell']) (by simp [maxLen]; omega) (by omega) (by simp; omega)
  obtain ⟨g, c, rfl⟩ := ownsRow_succ h2
  have hob : ∀ b, b < n0 → some b ≠ (Value.slice q.a q.n q.c).ownBlock := by
    intro b hb e
    rcases hown.2 with ⟨e1, -⟩ | ⟨g1, c1, cur, e1, hb1, -⟩
    · rw [e1] at e; cases e
    · rw [e1] at e; simp [Value.ownBlock] at e; omega
  have hty : ∀ b T cs, T ≠ 3 → Box W b T cs → some b ≠ (Value.slice q.a q.n q.c).ownBlock := by
    intro b T cs hT hb e
    rcases hown.2 with ⟨e1, -⟩ | ⟨g1, c1, cur, e1, hb1, hg1, -⟩
    · rw [e1] at e; cases e
    · rw [e1] at e
      simp [Value.ownBlock] at e
      subst e
      have := (hb.past (.cells #[.int .i64 z] 3))
      unfold Box at this
      rw [hg1] at this
      cases this
      exact hT rfl
  refine ⟨g, c, w', hr, ⟨?_, by simp; omega, by simpa [List.map_append] using h2⟩, fun b T cs hT hb => (h3.block b (by simp; have := hb.lt; omega) (hty b T cs hT hb)).trans (hb.past _), ?_, ?_⟩
  · rcases h.1 with h1 | ⟨b, a1, a2, a3, a4, hb, e, bx, hx⟩
    · exact .inl h1
    · exact .inr ⟨b, a1, a2, a3, a4, hb, e, (h3.block b (by simp; have := bx.lt; omega) (hty b _ _ (by decide) bx)).trans (bx.past _), hx⟩
  · exact ⟨h3.os.trans rfl, h3.tape.trans rfl, h3.output.trans rfl, by have := h3.size; simp at this; omega, fun k hk => (h3.block k (by simp; omega) (hob k hk)).trans (Below.heap_alloc W _ k (by omega))⟩
  · have := h3.size; simp at this; omega
end Go.Proofs.YtjbhcbjokeaagaaDoor
