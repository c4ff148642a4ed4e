/-
  An element more behind an own row: numbers, things.
-/
import Derived.Test.YtjbhcbjokeaagaaDoorTaO
namespace Go.Proofs.YtjbhcbjokeaagaaDoor
open Go.RowKit
set_option maxRecDepth 100000
set_option linter.unusedVariables false

theorem infoTh : (Tryd.prog.info? 36).map (fun i => (i.zero, i.size, i.bytes)) = some (some (.agg #[.int .i64 0, .int .i64 0, .int .i64 0, .int .i64 0, .int .i64 0, .slice none 0 0, .slice none 0 0, .int .i64 0]), 8, 96) := by kernel_rfl
/-- What an append leaves: the new row, and all that is no such row. -/
def Appd (n0 : Nat) (T TS : TypeId) (size : Nat) (W : World) (v : Value) (n : Nat) (xs : List Value) (news : Array Value) (ty : TypeId) : Prop :=
  ∃ g c w', (Builtin.append_ #[TS, TS] ty #[v, .slice (some ⟨W.heap.size, 0, none⟩) 1 1]).run Tryd.prog (W.alloc (.cells news T)) = .ok (.slice (some ⟨g, 0, none⟩) (n + 1) c) w' ∧
    w'.ownsRow n0 T size (.slice (some ⟨g, 0, none⟩) (n + 1) c) (n + 1) (xs ++ news.toList) ∧ (∀ b T' cs, T' ≠ T → Box W b T' cs → Box w' b T' cs) ∧ Below n0 W w' ∧ W.heap.size ≤ w'.heap.size
theorem append_row (n0 : Nat) (T TS : TypeId) (size bytes : Nat) (z : Value) (hinfo : (Tryd.prog.info? T).map (fun i => (i.zero, i.size, i.bytes)) = some (some z, size, bytes)) (hu : Tryd.prog.underlying TS = some (.slice T)) (hzs : z.cells.size = size) (hsz : 0 < size)
    (W : World) (v : Value) (n : Nat) (xs : List Value) (h : W.ownsRow n0 T size v n xs) (hl : n ≤ 1000) (hby : bytes ≤ 1000) (hn : n0 ≤ W.heap.size) (news : Array Value) (hns : news.size = size) (h1 : news.all (·.oneCell') = true) (ty : TypeId) :
    Appd n0 T TS size W v n xs news ty := by
  obtain ⟨i0, hi, hz0, hz1, hz2⟩ : ∃ i, Tryd.prog.info? T = some i ∧ i.zero = some z ∧ i.size = size ∧ i.bytes = bytes := by
    cases hq : Tryd.prog.info? T with
    | none => simp [hq] at hinfo
    | some i => simp [hq] at hinfo; exact ⟨i, rfl, hinfo⟩
  have hown : (W.alloc (.cells news T)).ownsRow n0 T size v n xs := by
    refine ⟨h.1, ?_⟩
    rcases h.2 with h2 | ⟨g, cap, cur, e, hb, hg, rest⟩
    · exact .inl h2
    · exact .inr ⟨g, cap, cur, e, hb, Box.past (show Box W g T cur from hg) _, rest⟩
  obtain ⟨v', w', hr, h2, h3, -⟩ := run_append_own (P := Tryd.prog) (W.alloc (.cells news T)) n0 TS ty T i0 z size bytes hu hi hz0 hz1 hz2 hzs hsz
    v n xs hown ⟨W.heap.size, 0, none⟩ 1 1 news.toList (by simp [hns])
    (fun j u hj => by
      have := (Box.fresh W T news).cell j u (by simpa using hj)
      rw [show (⟨W.heap.size, 0, none⟩ : Addr).add j = ⟨W.heap.size, j, none⟩ by unfold Addr.add; split <;> simp_all]
      exact this)
    (fun u hu => by
      have := Array.all_eq_true_iff_forall_mem.1 h1 u (by simpa using hu)
      exact this) (by simp [maxLen]; omega) (by
        have : (n + 1) * bytes ≤ 1001 * 1000 := Nat.mul_le_mul (by omega) hby
        omega) (by simp; omega)
  obtain ⟨g, c, rfl⟩ := ownsRow_succ h2
  have hob : ∀ b, b < n0 → some b ≠ v.ownBlock := by
    intro b hb e
    rcases hown.2 with ⟨e1, -⟩ | ⟨g1, c1, cur, e1, hb1, -⟩
    · rw [e1] at e; cases e
    · rw [e1] at e; simp [Value.ownBlock] at e; omega
  have hty : ∀ b T' cs, T' ≠ T → Box W b T' cs → some b ≠ v.ownBlock := by
    intro b T' cs hT hb e
    rcases hown.2 with ⟨e1, -⟩ | ⟨g1, c1, cur, e1, hb1, hg1, -⟩
    · rw [e1] at e; cases e
    · rw [e1] at e
      simp [Value.ownBlock] at e
      subst e
      have := (hb.past (.cells news T))
      unfold Box at this
      rw [hg1] at this
      cases this
      exact hT rfl
  refine ⟨g, c, w', hr, h2, fun b T' cs hT hb => (h3.block b (by simp; have := hb.lt; omega) (hty b T' cs hT hb)).trans (hb.past _), ?_, ?_⟩
  · exact ⟨h3.os.trans rfl, h3.tape.trans rfl, h3.output.trans rfl, by have := h3.size; simp at this; omega, fun k hk => (h3.block k (by simp; omega) (hob k hk)).trans (Below.heap_alloc W _ k (by omega))⟩
  · have := h3.size; simp at this; omega
theorem append_i (n0 : Nat) (W : World) (v : Value) (n : Nat) (xs : List Value) (h : W.ownsRow n0 3 1 v n xs) (hl : n ≤ 1000) (hn : n0 ≤ W.heap.size) (z : Int) (ty : TypeId) :
    Appd n0 3 34 1 W v n xs #[.int .i64 z] ty :=
  append_row n0 3 34 1 8 _ infoI Tryd.underlying34 rfl (by decide) W v n xs h hl (by decide) hn _ rfl (by simp [Value.oneCell']) ty
theorem append_t (n0 : Nat) (W : World) (v : Value) (ts : List Tr) (h : TaO n0 W v ts) (hl : ts.length ≤ 1000) (hn : n0 ≤ W.heap.size) (x : T8) (s q : Sl) (hx : ThO n0 W x s q) (hq : x.queue.length ≤ 3) (ty : TypeId) :
    ∃ g c w', (Builtin.append_ #[23, 23] ty #[v, .slice (some ⟨W.heap.size, 0, none⟩) 1 1]).run Tryd.prog (W.alloc (.cells (x.cs s q) 36)) = .ok (.slice (some ⟨g, 0, none⟩) (ts.length + 1) c) w' ∧
      TaO n0 w' (.slice (some ⟨g, 0, none⟩) (ts.length + 1) c) (ts ++ [(x, s, q)]) ∧ (∀ b T' cs, T' ≠ 36 → Box W b T' cs → Box w' b T' cs) ∧ Below n0 W w' ∧ W.heap.size ≤ w'.heap.size := by
  obtain ⟨g, c, w', hr, h2, hk, hb, hs⟩ := append_row n0 36 23 8 96 _ infoTh Tryd.underlying23 rfl (by decide) W v ts.length _ h.1 hl (by decide) hn (x.cs s q) rfl (by simp [Value.oneCell']) ty
  refine ⟨g, c, w', hr, ⟨?_, fun t ht => ?_⟩, hk, hb, hs⟩
  · have e : trCells (ts ++ [(x, s, q)]) = trCells ts ++ (x.cs s q).toList := by simp [trCells, List.flatMap_append]
    rw [e, List.length_append]
    exact h2
  · have kp : ∀ y : Tr, ThO n0 W y.1 y.2.1 y.2.2 → ThO n0 w' y.1 y.2.1 y.2.2 := fun y hy => hy.keep (fun b cs _ bx => hk b _ cs (by decide) bx) (fun b cs _ bx => hk b _ cs (by decide) bx)
    rcases List.mem_append.1 ht with ht | ht
    · exact ⟨kp t (h.2 t ht).1, (h.2 t ht).2⟩
    · simp at ht; subst ht
      exact ⟨kp (x, s, q) hx, hq⟩
/-- An append whose run is known, in a straight region. -/
theorem wpList_append_run {P : Program} {ops : Array Oper} {rest : List Oper} {o : Oper} {a : Act} {w : World} {Q : Exit → Act → World → Prop} (hgd : o.guard = none) (s x : Operand) (t : TypeId)
    (ho : o.op = .call { callee := .builtin .append, args := #[s, x], argTypes := #[t, t] }) (vs vx : Value) (hs : a.eval s = vs) (hx : a.eval x = vx) (v' : Value) (w' : World)
    (hr : (Builtin.append_ #[t, t] o.type #[vs, vx]).run P w = .ok v' w') (h : wpList P ops Q rest (a.put o.dst v') w') : wpList P ops Q (o :: rest) a w :=
  wpList_plain hgd fun _ hK => by
    unfold Oper.wp
    simp [execOp, ho, resolve, invoke, builtin, hs, hx, hr, Result.andThen]
    exact hK _ _ h
/-- A number of an own row. -/
theorem own_int {n0 : Nat} {W : World} {g c n : Nat} {ks : List Int} (h : W.ownsRow n0 3 1 (.slice (some ⟨g, 0, none⟩) n c) ks.length (ks.map fun z => Value.int .i64 z)) {i : Nat} (hi : i < ks.length) : W.cell? ⟨g, i, none⟩ = some (.int .i64 ks[i]) := by
  rcases h.2 with ⟨e, h0⟩ | ⟨g', cap, cur, e, hb, hg, h1, h2, h3, h4⟩
  · omega
  · simp only [Value.slice.injEq, Option.some.injEq, Addr.mk.injEq] at e
    obtain ⟨⟨rfl, -, -⟩, -, -⟩ := e
    have h5 : (cur.toList.take (ks.length * 1))[i]? = some (Value.int .i64 ks[i]) := by rw [h4]; simp [hi]
    rw [List.getElem?_take, if_pos (by omega)] at h5
    exact Box.cell (show Box W g 3 cur from hg) i _ (by simpa using h5)
theorem own_keep {n0 : Nat} {W W' : World} {e : TypeId} {size : Nat} {v : Value} {n : Nat} {xs : List Value} (h : W.ownsRow n0 e size v n xs) (k : ∀ b cs, n0 ≤ b → Box W b e cs → Box W' b e cs) : W'.ownsRow n0 e size v n xs := by
  refine ⟨h.1, ?_⟩
  rcases h.2 with h2 | ⟨g, cap, cur, e, hb, hg, rest⟩
  · exact .inl h2
  · exact .inr ⟨g, cap, cur, e, hb, k g cur hb hg, rest⟩
end Go.Proofs.YtjbhcbjokeaagaaDoor
