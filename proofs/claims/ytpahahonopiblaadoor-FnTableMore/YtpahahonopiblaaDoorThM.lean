/-
  Texts of ours as one: ThO, ThP, ThS, TaO, TaP.
-/
import Derived.Test.YtpahahonopiblaaDoorDrawN
import Derived.Test.YtpahahonopiblaaDoorTNewO
import Derived.Test.YtpahahonopiblaaDoorThgB
import Derived.RangeFuncBox
import Derived.Maps.AppendAt
import Derived.Test.YtpahahonopiblaaDoorThgN
import Derived.Deep.RegionWith
import Derived.Deep.RegionLaw
import Derived.Test.YtpahahonopiblaaDoorTab
namespace Go.Proofs.YtpahahonopiblaaDoor
open Go.RowKit
set_option maxRecDepth 100000
set_option linter.unusedVariables false

/-- A thing that owns what it holds: four rights or none, numbers. -/
def ThO (n0 : Nat) (W : World) (x : T8) (s q : Sl) : Prop :=
  ((s.n = 0 ∧ x.slots = []) ∨ ∃ b a1 a2 a3 a4, n0 ≤ b ∧ s = ⟨some ⟨b, 0, none⟩, 4, 4⟩ ∧ Box W b 44 (sl20 a1 a2 a3 a4) ∧ x.slots = [a1, a2, a3, a4]) ∧
  q.n = x.queue.length ∧ W.ownsRow n0 3 1 (.slice q.a q.n q.c) q.n (x.queue.map fun n => Value.int .i64 n)
theorem ThO.keep {n0 : Nat} {W W' : World} {x : T8} {s q : Sl} (h : ThO n0 W x s q) (k1 : ∀ b cs, n0 ≤ b → Box W b 44 cs → Box W' b 44 cs) (k2 : ∀ b cs, n0 ≤ b → Box W b 3 cs → Box W' b 3 cs) : ThO n0 W' x s q := by
  obtain ⟨h1, h2, h3, h4⟩ := h
  refine ⟨?_, h2, h3, ?_⟩
  · rcases h1 with h1 | ⟨b, a1, a2, a3, a4, hb, e, bx, hx⟩
    · exact .inl h1
    · exact .inr ⟨b, a1, a2, a3, a4, hb, e, k1 _ _ hb bx, hx⟩
  · rcases h4 with h4 | ⟨g, cap, cur, e, hb, hg, rest⟩
    · exact .inl h4
    · exact .inr ⟨g, cap, cur, e, hb, k2 g cur hb hg, rest⟩
theorem ThO.stay {n0 : Nat} {W W' : World} {x : T8} {s q : Sl} (h : ThO n0 W x s q) (hb : Below W.heap.size W W') : ThO n0 W' x s q := h.keep (fun _ _ _ b => b.stay hb) (fun _ _ _ b => b.stay hb)
theorem ThO.grew {n0 r : Nat} {W W' : World} {x : T8} {s q : Sl} (h : ThO n0 W x s q) (hr : r < n0) (g : Grew r W W') : ThO n0 W' x s q := h.keep (fun _ _ hb b => b.grew g (by omega)) (fun _ _ hb b => b.grew g (by omega))
theorem ThO.put {n0 : Nat} {W : World} {x : T8} {s q : Sl} (h : ThO n0 W x s q) {b i : Nat} {cs : Array Value} (hb : Box W b 37 cs) (u : Value) : ThO n0 (W.setCell ⟨b, i, none⟩ u) x s q :=
  h.keep (fun _ _ _ k => k.other (Box.ne k hb (by decide)) u) (fun _ _ _ k => k.other (Box.ne k hb (by decide)) u)
theorem ThO.row {n0 : Nat} {W : World} {x : T8} {s q : Sl} (h : ThO n0 W x s q) {b : Nat} {cs : Array Value} (hb : Box W b 37 cs) (us : Array Value) : ThO n0 (W.setRow b us) x s q :=
  h.keep (fun _ _ _ k => setRow_other k (Box.ne k hb (by decide))) (fun _ _ _ k => setRow_other k (Box.ne k hb (by decide)))
theorem ThO.less {n0 n1 : Nat} {W : World} {x : T8} {s q : Sl} (h : ThO n1 W x s q) (hn : n0 ≤ n1) : ThO n0 W x s q := by
  obtain ⟨h1, h2, h3, h4⟩ := h
  refine ⟨?_, h2, h3, ?_⟩
  · rcases h1 with h1 | ⟨b, a1, a2, a3, a4, hb, e, bx, hx⟩
    · exact .inl h1
    · exact .inr ⟨b, a1, a2, a3, a4, by omega, e, bx, hx⟩
  · rcases h4 with h4 | ⟨g, cap, cur, e, hb, hg, rest⟩
    · exact .inl h4
    · exact .inr ⟨g, cap, cur, e, by omega, hg, rest⟩
/-- A thing with the same rights and numbers. -/
theorem ThO.as {n0 : Nat} {W : World} {x y : T8} {s q : Sl} (h : ThO n0 W x s q) (h1 : y.slots = x.slots) (h2 : y.queue = x.queue) : ThO n0 W y s q := by
  unfold ThO at h ⊢
  rw [h1, h2]
  exact h
theorem four_has {W : World} {b : Nat} {T : TypeId} {a1 a2 a3 a4 : R5} (bx : Box W b T (sl20 a1 a2 a3 a4)) : HasR W ⟨some ⟨b, 0, none⟩, 4, 4⟩ [a1, a2, a3, a4] := by
  refine ⟨rfl, Nat.le_refl _, .inr ⟨_, _, rfl, fun i x hx j v hv => ?_⟩⟩
  match i, hx with
  | 0, hx => simp at hx; subst hx; match j, hv with
    | 0, hv => exact bx.cell _ _ hv
    | 1, hv => exact bx.cell _ _ hv
    | 2, hv => exact bx.cell _ _ hv
    | 3, hv => exact bx.cell _ _ hv
    | 4, hv => exact bx.cell _ _ hv
    | j + 5, hv => simp at hv
  | 1, hx => simp at hx; subst hx; match j, hv with
    | 0, hv => exact bx.cell _ _ hv
    | 1, hv => exact bx.cell _ _ hv
    | 2, hv => exact bx.cell _ _ hv
    | 3, hv => exact bx.cell _ _ hv
    | 4, hv => exact bx.cell _ _ hv
    | j + 5, hv => simp at hv
  | 2, hx => simp at hx; subst hx; match j, hv with
    | 0, hv => exact bx.cell _ _ hv
    | 1, hv => exact bx.cell _ _ hv
    | 2, hv => exact bx.cell _ _ hv
    | 3, hv => exact bx.cell _ _ hv
    | 4, hv => exact bx.cell _ _ hv
    | j + 5, hv => simp at hv
  | 3, hx => simp at hx; subst hx; match j, hv with
    | 0, hv => exact bx.cell _ _ hv
    | 1, hv => exact bx.cell _ _ hv
    | 2, hv => exact bx.cell _ _ hv
    | 3, hv => exact bx.cell _ _ hv
    | 4, hv => exact bx.cell _ _ hv
    | j + 5, hv => simp at hv
  | i + 4, hx => simp at hx
theorem ThO.hasR {n0 : Nat} {W : World} {x : T8} {s q : Sl} (h : ThO n0 W x s q) (hc : s.n ≤ s.c) : HasR W s x.slots := by
  rcases h.1 with ⟨h1, h2⟩ | ⟨b, a1, a2, a3, a4, hb, rfl, bx, hx⟩
  · rw [h2]; exact ⟨h1, hc, .inl rfl⟩
  · rw [hx]; exact four_has bx
theorem ThO.hasR' {n0 : Nat} {W : World} {x : T8} {s q : Sl} (h : ThO n0 W x s q) : HasR W s x.slots := h.hasR (by
  rcases h.1 with ⟨h1, h2⟩ | ⟨b, a1, a2, a3, a4, hb, rfl, bx, hx⟩
  · omega
  · exact Nat.le_refl _)
theorem ThO.hasQ {n0 : Nat} {W : World} {x : T8} {s q : Sl} (h : ThO n0 W x s q) : HasQ W q x.queue := by
  obtain ⟨-, h2, h3, h4⟩ := h
  rcases h4 with ⟨e, h0⟩ | ⟨g, cap, cur, e, hb, hg, hn, hm, hz, ht⟩
  · have hq : x.queue = [] := List.length_eq_zero_iff.1 (by omega)
    rw [hq]
    injection e with e1 e2 e3
    exact ⟨by simp; omega, by omega, .inl rfl⟩
  · injection e with e1 e2 e3
    refine ⟨by simp; omega, by omega, .inr ⟨g, 0, e1, fun i y hy j v hv => ?_⟩⟩
    simp only [List.getElem?_map, Option.map_eq_some_iff] at hy
    obtain ⟨z, hz1, rfl⟩ := hy
    obtain rfl : j = 0 := by
      have := (Array.getElem?_eq_some_iff.1 hv).1
      simp at this; omega
    simp at hv
    subst hv
    have hi : i < x.queue.length := (List.getElem?_eq_some_iff.1 hz1).1
    have h5 : (cur.toList.take (q.n * 1))[i]? = some (Value.int .i64 z) := by rw [ht]; simp [hz1]
    rw [List.getElem?_take] at h5
    simp only [show i < q.n * 1 by omega, if_true] at h5
    have h6 := Box.cell (show Box W g 3 cur from hg) i (.int .i64 z) (by simpa using h5)
    simpa using h6
theorem ThO.slots_le {n0 : Nat} {W : World} {x : T8} {s q : Sl} (h : ThO n0 W x s q) : x.slots.length ≤ 4 := by
  rcases h.1 with ⟨h1, h2⟩ | ⟨b, a1, a2, a3, a4, hb, rfl, bx, hx⟩
  · rw [h2]; simp
  · rw [hx]; simp

/-- The model's ThingNew: none, or a thing that owns what it holds. -/
def NewTh (w : World) (e : Ending) (y : World) : Prop :=
  ∃ (x : T8) (s q : Sl) (ok : Bool), e = .returned (.tuple #[x.val s q, .bool ok]) ∧ (x.kind = 0 ∨ (1 ≤ x.kind ∧ x.kind ≤ 5 ∧ x.queue = [] ∧ ThO w.heap.size y x s q)) ∧ Below w.heap.size w y
theorem okT_kind {x : T8} (h : okT x = true) : 1 ≤ x.kind ∧ x.kind ≤ 5 := by
  simp only [okT, okT1, Bool.and_eq_true] at h
  have h1 := h.1.1
  simpa [inR] using h1
theorem newPostO_th {kind sec vou tt : Int} {w y : World} {e : Ending} (h : NewPostO kind sec vou tt w e y) (ho : okT (newT kind sec vou tt) = true) :
    ∃ (s q : Sl), e = .returned (.tuple #[(newT kind sec vou tt).val s q, .bool true]) ∧ ThO w.heap.size y (newT kind sec vou tt) s q := by
  rcases h with ⟨⟨h, -⟩ | ⟨-, s, q, he, h1, h2, h3⟩, hb⟩
  · exact absurd (ho.symm.trans h) (by decide)
  · refine ⟨s, q, he, ?_, h2, by rw [h2] at h3 ⊢; exact h3⟩
    rcases h1 with ⟨hk, hn⟩ | ⟨hk, b, hb, e, bx⟩
    · exact .inl ⟨hn, by simp [newT, hk]⟩
    · exact .inr ⟨b, ⟨0, 0, false, false, false⟩, ⟨0, 0, false, false, false⟩, ⟨0, 0, false, false, false⟩, ⟨0, 0, false, false, false⟩, hb, e, bx, by simp [newT, hk]⟩
theorem specTNew_th (kind sec vou tt : Int) (w : World) :
    Calls Tryd.prog 117 #[.int .i64 kind, lab sec vou, .int .i64 tt] w (NewTh w) :=
  (specTNewO_any kind sec vou tt w).mono fun e y h => by
    cases ho : okT (newT kind sec vou tt)
    · rcases h with ⟨⟨-, he⟩ | ⟨h, -⟩, hb⟩
      · exact ⟨zeroT, ⟨none, 0, 0⟩, ⟨none, 0, 0⟩, false, he, .inl rfl, hb⟩
      · exact absurd (ho.symm.trans h) (by decide)
    · obtain ⟨s, q, he, ht⟩ := newPostO_th h ho
      obtain ⟨k1, k5⟩ := okT_kind ho
      exact ⟨_, s, q, true, he, .inr ⟨k1, k5, rfl, ht⟩, h.2⟩
theorem specTNew_page (w : World) :
    Calls Tryd.prog 117 #[.int .i64 1, lab 0 0, .int .i64 0] w fun e y => ∃ (x : T8) (s q : Sl), e = .returned (.tuple #[x.val s q, .bool true]) ∧ x.kind = 1 ∧ x.queue = [] ∧ ThO w.heap.size y x s q ∧ Below w.heap.size w y :=
  (specTNewO_any 1 0 0 0 w).mono fun e y h => by
    obtain ⟨s, q, he, ht⟩ := newPostO_th h (by decide)
    exact ⟨_, s, q, he, rfl, rfl, ht, h.2⟩

/-! A drawing call with a reader that was there. -/
def St (w : World) (r : Nat) (a : Option Addr) (len cap : Nat) (zs : List Int) (p : Nat) (L : List Blk3) (W : World) : Prop := KnR r w L W ∧ Rd W r a len cap zs p ∧ r < w.heap.size ∧ ∀ b o, a = some ⟨b, o, none⟩ → 0 < len → b < w.heap.size
section
variable {w W W' : World} {r : Nat} {a : Option Addr} {len cap : Nat} {zs : List Int} {p p' : Nat} {L : List Blk3}
theorem St.start (h : Rd w r a len cap zs p) : St w r a len cap zs p [] w := ⟨KnR.start r w, h, h.lt, h.code⟩
theorem St.on (h : St w r a len cap zs p L W) (g : Grew r W W') (hR : Rd W' r a len cap zs p') : St w r a len cap zs p' L W' := ⟨h.1.on g, hR, h.2.2⟩
theorem St.stay (h : St w r a len cap zs p L W) (hb : Below W.heap.size W W') : St w r a len cap zs p L W' := ⟨h.1.stay hb, h.2.1.stay hb, h.2.2⟩
theorem St.drew (h : St w r a len cap zs p L W) : St w r a len cap zs p L W.drew := ⟨h.1.drew, h.2.1.drew, h.2.2⟩
theorem St.new (h : St w r a len cap zs p L W) (T : TypeId) (vs : Array Value) : St w r a len cap zs p ((W.heap.size, T, vs) :: L) (W.alloc (.cells vs T)) := ⟨h.1.new h.2.2.1 T vs, h.2.1.past _, h.2.2⟩
theorem St.past (h : St w r a len cap zs p L W) (o : Obj) : St w r a len cap zs p L (W.alloc o) := ⟨h.1.past o, h.2.1.past _, h.2.2⟩
theorem St.put {b : Nat} {T : TypeId} {vs : Array Value} (h : St w r a len cap zs p ((b, T, vs) :: L) W) (hn : ∀ t ∈ L, t.1 ≠ b) (i : Nat) (u : Value) : St w r a len cap zs p ((b, T, vs.setIfInBounds i u) :: L) (W.setCell ⟨b, i, none⟩ u) := by
  have h2 := (h.1.2 (b, T, vs) (by simp)).2
  exact ⟨h.1.put hn i u, h.2.1.other u h2.1 (fun b' o e hl => by have := h.2.2.2 b' o e hl; have h3 : w.heap.size ≤ b := h2.2; dsimp only; omega), h.2.2⟩
theorem Rd.keepB {n0 : Nat} (h : Rd W r a len cap zs p) (hr : r < n0) (hc : ∀ b o, a = some ⟨b, o, none⟩ → 0 < len → b < n0) (hb : Below n0 W W') : Rd W' r a len cap zs p := by
  obtain ⟨h1, h2, h3⟩ := h
  refine ⟨(hb.block r hr).trans h1, ?_, h3⟩
  have hg : Grew r W W' → Code W' a len cap zs := fun g => h2.grew g h3
  obtain ⟨c1, c2, c3, c4⟩ := h2
  refine ⟨c1, c2, c3, fun hl => ?_⟩
  obtain ⟨b, o, e, hb1, hc1⟩ := c4 hl
  refine ⟨b, o, e, Nat.lt_of_lt_of_le hb1 hb.size, fun i hi => ?_⟩
  exact ⟨(hb.cell (p := ⟨b, o + i, none⟩) (hc b o e hl)).trans (hc1 i hi).1, (hc1 i hi).2⟩
theorem St.row {b : Nat} {T : TypeId} {vs : Array Value} (h : St w r a len cap zs p ((b, T, vs) :: L) W) (hn : ∀ t ∈ L, t.1 ≠ b) (us : Array Value) : St w r a len cap zs p ((b, T, us) :: L) (W.setRow b us) := by
  have h2 := (h.1.2 (b, T, vs) (by simp)).2
  have hsb : w.heap.size ≤ b := h2.2
  have hbl : Below w.heap.size W (W.setRow b us) := setRow_below hsb us
  refine ⟨⟨⟨h.1.1.os, h.1.1.tape, h.1.1.output, by simpa [World.setRow] using h.1.1.size, fun k hk hkr => (hbl.block k hk).trans (h.1.1.block k hk hkr)⟩, fun t ht => ?_⟩, h.2.1.keepB h.2.2.1 h.2.2.2 hbl, h.2.2⟩
  rcases List.mem_cons.1 ht with rfl | ht
  · exact ⟨setRow_box (h.1.2 (b, T, vs) (by simp)).1 us, h2⟩
  · exact ⟨setRow_other (h.1.2 t (List.mem_cons_of_mem _ ht)).1 (hn t ht), (h.1.2 t (List.mem_cons_of_mem _ ht)).2⟩
theorem St.less {L' : List Blk3} (h : St w r a len cap zs p L W) (hs : ∀ t ∈ L', t ∈ L) : St w r a len cap zs p L' W := ⟨h.1.less hs, h.2⟩
end
theorem results_row {P : Program} {fn : Func} {p : Tmp} {ty : TypeId} (h : fn.results = #[.cell p ty]) (tmps : Array Value) (w : World) (g : Nat) (t : TypeId) (cs : Array Value) (d : TypeDesc)
    (hp : tmps.getD p undef = .pointer (some ⟨g, 0, none⟩)) (hg : Box w g t cs)
    (hu : P.underlying ty = some d) (hd : (match d with | .struct _ | .array _ _ => true | _ => false) = true) (hi : (P.info? ty).map (·.size) = some cs.size) :
    (results fn tmps).run P w = .ok (.agg cs) w := results_cell_row h tmps w g t cs (0, 0) d hp hg hu hd hi
end Go.Proofs.YtpahahonopiblaaDoor

namespace Go.Proofs.YtpahahonopiblaaDoor
open Go.RowKit
set_option maxRecDepth 100000
set_option linter.unusedVariables false

/-- What a drawn thing leaves. -/
def ThPost (r : Nat) (a : Option Addr) (len cap : Nat) (zs : List Int) (p : Nat) (w : World) (e : Ending) (w' : World) : Prop :=
  ∃ (x : T8) (s q : Sl), e = .returned (x.val s q) ∧ ThO w.heap.size w' x s q ∧ x.queue.length ≤ 3 ∧ 1 ≤ x.kind ∧ x.kind ≤ 5 ∧ ∃ p', p' ≤ p + 20 ∧ Rd w' r a len cap zs p' ∧ Grew r w w'
theorem putNum (x : T8) (s q : Sl) (n : Int) : (x.cs s q).setIfInBounds 4 (.int .i64 n) = ({ x with num := n } : T8).cs s q := by simp
theorem putVers (x : T8) (s q : Sl) (n : Int) : (x.cs s q).setIfInBounds 3 (.int .i64 n) = ({ x with vers := n } : T8).cs s q := by simp
theorem putKind (x : T8) (s q : Sl) (n : Int) : (x.cs s q).setIfInBounds 0 (.int .i64 n) = ({ x with kind := n } : T8).cs s q := by simp
theorem putQ (x : T8) (s q : Sl) (l : List Int) (a : Option Addr) (n c : Nat) : (x.cs s q).setIfInBounds 6 (.slice a n c) = ({ x with queue := l } : T8).cs s ⟨a, n, c⟩ := by simp

/-- An append whose run is known, as one step of a region that draws. -/
theorem step_append_run {P : Program} {ops : Array Oper} {o : Oper} {a : Act} {w : World} {K : Act → World → Prop} {Q : Exit → Act → World → Prop} {E : Prop} (hgd : o.guard = none) (s x : Operand) (t : TypeId)
    (ho : o.op = .call { callee := .builtin .append, args := #[s, x], argTypes := #[t, t] }) (vs vx : Value) (hs : a.eval s = vs) (hx : a.eval x = vx) (v' : Value) (w' : World)
    (hr : (Builtin.append_ #[t, t] o.type #[vs, vx]).run P w = .ok v' w') (h : K (a.put o.dst v') w') :
    if Region.wanted o (yielded ops a.tmps) = true then Oper.wp P o a w K Q else E := by
  have hw : Region.wanted o (yielded ops a.tmps) = true := by simp [Region.wanted, hgd]
  rw [if_pos hw]
  unfold Oper.wp
  simp [execOp, ho, resolve, invoke, builtin, hs, hx, hr, Result.andThen]
  exact h
theorem infoI : (Tryd.prog.info? 3).map (fun i => (i.zero, i.size, i.bytes)) = some (some (.int .i64 0), 1, 8) := by kernel_rfl
/-- A number more behind the numbers of a thing. -/
theorem append_q (n0 : Nat) (W : World) (x : T8) (s q : Sl) (h : ThO n0 W x s q) (hl : x.queue.length ≤ 1000) (hn : n0 ≤ W.heap.size) (z : Int) (ty : TypeId) :
    ∃ g c w', (Builtin.append_ #[35, 35] ty #[.slice q.a q.n q.c, .slice (some ⟨W.heap.size, 0, none⟩) 1 1]).run Tryd.prog (W.alloc (.cells #[.int .i64 z] 3)) = .ok (.slice (some ⟨g, 0, none⟩) (q.n + 1) c) w' ∧
      ThO n0 w' { x with queue := x.queue ++ [z] } s ⟨some ⟨g, 0, none⟩, q.n + 1, c⟩ ∧ (∀ b T cs, T ≠ 3 → Box W b T cs → Box w' b T cs) ∧ Below n0 W w' ∧ W.heap.size ≤ w'.heap.size := by
  obtain ⟨i0, hi, hz0, hz1, hz2⟩ : ∃ i, Tryd.prog.info? 3 = some i ∧ i.zero = some (.int .i64 0) ∧ i.size = 1 ∧ i.bytes = 8 := by
    have h := infoI
    cases hq : Tryd.prog.info? 3 with
    | none => simp [hq] at h
    | some i => simp [hq] at h; exact ⟨i, rfl, h⟩
  have hal : Below W.heap.size W (W.alloc (.cells #[.int .i64 z] 3)) := (Below.refl _ _).alloc (Nat.le_refl _) _
  have hown := (h.stay hal).2.2
  have hqn := h.2.1
  obtain ⟨v', w', hr, h2, h3, -⟩ := run_append_own (P := Tryd.prog) (W.alloc (.cells #[.int .i64 z] 3)) n0 35 ty 3 i0 (.int .i64 0) 1 8 Tryd.underlying35 hi hz0 hz1 hz2 rfl (by decide)
    (.slice q.a q.n q.c) q.n _ hown ⟨W.heap.size, 0, none⟩ 1 1 [.int .i64 z] rfl
    (fun j u hj => by
      obtain rfl : j = 0 := by have := (List.getElem?_eq_some_iff.1 hj).1; simp at this; omega
      simp at hj
      subst hj
      exact (Box.fresh W 3 #[.int .i64 z]).cell 0 _ rfl)
    (by simp [Value.oneCell']) (by simp [maxLen]; omega) (by omega) (by simp; omega)
  obtain ⟨g, c, rfl⟩ := ownsRow_succ h2
  have hob : ∀ b, b < n0 → some b ≠ (Value.slice q.a q.n q.c).ownBlock := by
    intro b hb e
    rcases hown.2 with ⟨e1, -⟩ | ⟨g1, c1, cur, e1, hb1, -⟩
    · rw [e1] at e; cases e
    · rw [e1] at e; simp [Value.ownBlock] at e; omega
  have hty : ∀ b T cs, T ≠ 3 → Box W b T cs → some b ≠ (Value.slice q.a q.n q.c).ownBlock := by
    intro b T cs hT hb e
    rcases hown.2 with ⟨e1, -⟩ | ⟨g1, c1, cur, e1, hb1, hg1, -⟩
    · rw [e1] at e; cases e
    · rw [e1] at e
      simp [Value.ownBlock] at e
      subst e
      have := (hb.past (.cells #[.int .i64 z] 3))
      unfold Box at this
      rw [hg1] at this
      cases this
      exact hT rfl
  refine ⟨g, c, w', hr, ⟨?_, by simp; omega, by simpa [List.map_append] using h2⟩, fun b T cs hT hb => (h3.block b (by simp; have := hb.lt; omega) (hty b T cs hT hb)).trans (hb.past _), ?_, ?_⟩
  · rcases h.1 with h1 | ⟨b, a1, a2, a3, a4, hb, e, bx, hx⟩
    · exact .inl h1
    · exact .inr ⟨b, a1, a2, a3, a4, hb, e, (h3.block b (by simp; have := bx.lt; omega) (hty b _ _ (by decide) bx)).trans (bx.past _), hx⟩
  · exact ⟨h3.os.trans rfl, h3.tape.trans rfl, h3.output.trans rfl, by have := h3.size; simp at this; omega, fun k hk => (h3.block k (by simp; omega) (hob k hk)).trans (Below.heap_alloc W _ k (by omega))⟩
  · have := h3.size; simp at this; omega
end Go.Proofs.YtpahahonopiblaaDoor

namespace Go.Proofs.YtpahahonopiblaaDoor
open Go.RowKit
set_option maxRecDepth 100000
set_option linter.unusedVariables false

/-- A right stored, cell by cell. -/
def set5 (W : World) (b o : Nat) (v : R5) : World := ((((W.setCell ⟨b, o, none⟩ (.int .i64 v.t)).setCell ⟨b, o + 1, none⟩ (.int .i64 v.v)).setCell ⟨b, o + 2, none⟩ (.bool v.r)).setCell ⟨b, o + 3, none⟩ (.bool v.w)).setCell ⟨b, o + 4, none⟩ (.bool v.k)
theorem set5_c0 (a1 a2 a3 a4 v : R5) : (((((sl20 a1 a2 a3 a4).setIfInBounds (0 * 5) (.int .i64 v.t)).setIfInBounds (0 * 5 + 1) (.int .i64 v.v)).setIfInBounds (0 * 5 + 2) (.bool v.r)).setIfInBounds (0 * 5 + 3) (.bool v.w)).setIfInBounds (0 * 5 + 4) (.bool v.k) = sl20 v a2 a3 a4 := by kernel_rfl
theorem set5_c1 (a1 a2 a3 a4 v : R5) : (((((sl20 a1 a2 a3 a4).setIfInBounds (1 * 5) (.int .i64 v.t)).setIfInBounds (1 * 5 + 1) (.int .i64 v.v)).setIfInBounds (1 * 5 + 2) (.bool v.r)).setIfInBounds (1 * 5 + 3) (.bool v.w)).setIfInBounds (1 * 5 + 4) (.bool v.k) = sl20 a1 v a3 a4 := by kernel_rfl
theorem set5_c2 (a1 a2 a3 a4 v : R5) : (((((sl20 a1 a2 a3 a4).setIfInBounds (2 * 5) (.int .i64 v.t)).setIfInBounds (2 * 5 + 1) (.int .i64 v.v)).setIfInBounds (2 * 5 + 2) (.bool v.r)).setIfInBounds (2 * 5 + 3) (.bool v.w)).setIfInBounds (2 * 5 + 4) (.bool v.k) = sl20 a1 a2 v a4 := by kernel_rfl
theorem set5_c3 (a1 a2 a3 a4 v : R5) : (((((sl20 a1 a2 a3 a4).setIfInBounds (3 * 5) (.int .i64 v.t)).setIfInBounds (3 * 5 + 1) (.int .i64 v.v)).setIfInBounds (3 * 5 + 2) (.bool v.r)).setIfInBounds (3 * 5 + 3) (.bool v.w)).setIfInBounds (3 * 5 + 4) (.bool v.k) = sl20 a1 a2 a3 v := by kernel_rfl
theorem set5_b0 {W : World} {b : Nat} {T : TypeId} {a1 a2 a3 a4 : R5} (bx : Box W b T (sl20 a1 a2 a3 a4)) (v : R5) : Box (set5 W b (0 * 5) v) b T (sl20 v a2 a3 a4) := by
  have h := ((((bx.put (0 * 5) (.int .i64 v.t)).put (0 * 5 + 1) (.int .i64 v.v)).put (0 * 5 + 2) (.bool v.r)).put (0 * 5 + 3) (.bool v.w)).put (0 * 5 + 4) (.bool v.k)
  rw [set5_c0] at h
  unfold set5
  exact h
theorem set5_b1 {W : World} {b : Nat} {T : TypeId} {a1 a2 a3 a4 : R5} (bx : Box W b T (sl20 a1 a2 a3 a4)) (v : R5) : Box (set5 W b (1 * 5) v) b T (sl20 a1 v a3 a4) := by
  have h := ((((bx.put (1 * 5) (.int .i64 v.t)).put (1 * 5 + 1) (.int .i64 v.v)).put (1 * 5 + 2) (.bool v.r)).put (1 * 5 + 3) (.bool v.w)).put (1 * 5 + 4) (.bool v.k)
  rw [set5_c1] at h
  unfold set5
  exact h
theorem set5_b2 {W : World} {b : Nat} {T : TypeId} {a1 a2 a3 a4 : R5} (bx : Box W b T (sl20 a1 a2 a3 a4)) (v : R5) : Box (set5 W b (2 * 5) v) b T (sl20 a1 a2 v a4) := by
  have h := ((((bx.put (2 * 5) (.int .i64 v.t)).put (2 * 5 + 1) (.int .i64 v.v)).put (2 * 5 + 2) (.bool v.r)).put (2 * 5 + 3) (.bool v.w)).put (2 * 5 + 4) (.bool v.k)
  rw [set5_c2] at h
  unfold set5
  exact h
theorem set5_b3 {W : World} {b : Nat} {T : TypeId} {a1 a2 a3 a4 : R5} (bx : Box W b T (sl20 a1 a2 a3 a4)) (v : R5) : Box (set5 W b (3 * 5) v) b T (sl20 a1 a2 a3 v) := by
  have h := ((((bx.put (3 * 5) (.int .i64 v.t)).put (3 * 5 + 1) (.int .i64 v.v)).put (3 * 5 + 2) (.bool v.r)).put (3 * 5 + 3) (.bool v.w)).put (3 * 5 + 4) (.bool v.k)
  rw [set5_c3] at h
  unfold set5
  exact h
theorem set5_box {W : World} {b : Nat} {T : TypeId} {a1 a2 a3 a4 : R5} (bx : Box W b T (sl20 a1 a2 a3 a4)) (k : Nat) (hk : k < 4) (v : R5) : ∃ c1 c2 c3 c4, Box (set5 W b (k * 5) v) b T (sl20 c1 c2 c3 c4) := by
  have hc : k = 0 ∨ k = 1 ∨ k = 2 ∨ k = 3 := by omega
  rcases hc with e | e | e | e
  · rw [e]; exact ⟨v, a2, a3, a4, set5_b0 bx v⟩
  · rw [e]; exact ⟨a1, v, a3, a4, set5_b1 bx v⟩
  · rw [e]; exact ⟨a1, a2, v, a4, set5_b2 bx v⟩
  · rw [e]; exact ⟨a1, a2, a3, v, set5_b3 bx v⟩
theorem set5_other {W : World} {b b' o : Nat} {T : TypeId} {cs : Array Value} (bx : Box W b' T cs) (hn : b' ≠ b) (v : R5) : Box (set5 W b o v) b' T cs := by
  unfold set5
  exact ((((bx.other (by exact hn) _).other (by exact hn) _).other (by exact hn) _).other (by exact hn) _).other (by exact hn) _
theorem set5_below {W : World} {b o n0 : Nat} (hb : n0 ≤ b) (v : R5) : Below n0 W (set5 W b o v) := by
  unfold set5
  exact (((((Below.refl n0 W).setCell (by exact hb) _).setCell (by exact hb) _).setCell (by exact hb) _).setCell (by exact hb) _).setCell (by exact hb) _
theorem set5_size (W : World) (b o : Nat) (v : R5) : (set5 W b o v).heap.size = W.heap.size := by simp [set5, World.setCell]
theorem ThO.set5 {n0 : Nat} {W : World} {x : T8} {s q : Sl} (h : ThO n0 W x s q) {b : Nat} {a1 a2 a3 a4 : R5} (bx : Box W b 44 (sl20 a1 a2 a3 a4)) (k : Nat) (hk : k < 4) (v : R5) :
    ∃ sl, sl.length = x.slots.length ∧ ThO n0 (Go.Proofs.YtpahahonopiblaaDoor.set5 W b (k * 5) v) { x with slots := sl } s q := by
  obtain ⟨h1, h2, h3, h4⟩ := h
  have hown : (Go.Proofs.YtpahahonopiblaaDoor.set5 W b (k * 5) v).ownsRow n0 3 1 (.slice q.a q.n q.c) q.n (x.queue.map fun n => Value.int .i64 n) := by
    refine ⟨h3, ?_⟩
    rcases h4 with h4 | ⟨g, cap, cur, e, hb, hg, rest⟩
    · exact .inl h4
    · exact .inr ⟨g, cap, cur, e, hb, set5_other (show Box W g 3 cur from hg) (Box.ne (show Box W g 3 cur from hg) bx (by decide)) v, rest⟩
  rcases h1 with ⟨e1, e2⟩ | ⟨b', d1, d2, d3, d4, hb', e, bx', hx⟩
  · exact ⟨[], by rw [e2], .inl ⟨e1, rfl⟩, h2, hown⟩
  · by_cases hbb : b' = b
    · subst hbb
      obtain ⟨c1, c2, c3, c4, hc⟩ := set5_box bx k hk v
      exact ⟨[c1, c2, c3, c4], by rw [hx]; rfl, .inr ⟨b', c1, c2, c3, c4, hb', e, hc, rfl⟩, h2, hown⟩
    · exact ⟨[d1, d2, d3, d4], by rw [hx], .inr ⟨b', d1, d2, d3, d4, hb', e, set5_other bx' hbb v, rfl⟩, h2, hown⟩
section
variable {w W W' : World} {r : Nat} {a : Option Addr} {len cap : Nat} {zs : List Int} {p p' : Nat} {L : List Blk3}
theorem St.set5 (h : St w r a len cap zs p L W) {b o : Nat} (hb : w.heap.size ≤ b) (hn : ∀ t ∈ L, t.1 ≠ b) (v : R5) : St w r a len cap zs p L (Go.Proofs.YtpahahonopiblaaDoor.set5 W b o v) := by
  have hbl : Below w.heap.size W (Go.Proofs.YtpahahonopiblaaDoor.set5 W b o v) := set5_below hb v
  refine ⟨⟨⟨hbl.os.trans h.1.1.os, hbl.tape.trans h.1.1.tape, hbl.output.trans h.1.1.output, Nat.le_trans h.1.1.size hbl.size, fun k hk hkr => (hbl.block k hk).trans (h.1.1.block k hk hkr)⟩, fun t ht => ⟨set5_other (h.1.2 t ht).1 (hn t ht) v, (h.1.2 t ht).2⟩⟩, h.2.1.keepB h.2.2.1 h.2.2.2 hbl, h.2.2⟩
/-- Beside a call that only made memory and turned one own row of numbers. -/
theorem St.own (h : St w r a len cap zs p L W) (hbl : Below w.heap.size W W') (hk : ∀ t ∈ L, Box W' t.1 t.2.1 t.2.2) : St w r a len cap zs p L W' :=
  ⟨⟨⟨hbl.os.trans h.1.1.os, hbl.tape.trans h.1.1.tape, hbl.output.trans h.1.1.output, Nat.le_trans h.1.1.size hbl.size, fun k hk hkr => (hbl.block k hk).trans (h.1.1.block k hk hkr)⟩, fun t ht => ⟨hk t ht, (h.1.2 t ht).2⟩⟩, h.2.1.keepB h.2.2.1 h.2.2.2 hbl, h.2.2⟩
end
end Go.Proofs.YtpahahonopiblaaDoor

namespace Go.Proofs.YtpahahonopiblaaDoor
open Go.RowKit
set_option maxRecDepth 100000
set_option linter.unusedVariables false

/-- A thing and its two slices. -/
abbrev Tr := T8 × Sl × Sl
abbrev Tr.cs (t : Tr) : Array Value := t.1.cs t.2.1 t.2.2
def trCells (ts : List Tr) : List Value := ts.flatMap fun t => (Tr.cs t).toList
theorem trCells_len (ts : List Tr) : (trCells ts).length = ts.length * 8 := by
  induction ts with
  | nil => rfl
  | cons t ts ih => simp only [trCells, List.flatMap_cons, List.length_append, List.length_cons] at ih ⊢; rw [ih]; simp; omega
theorem trCells_get : ∀ (ts : List Tr) (i j : Nat) (t : Tr), ts[i]? = some t → j < 8 → (trCells ts)[i * 8 + j]? = (Tr.cs t)[j]?
  | [], i, j, t, h, _ => by simp at h
  | u :: ts, 0, j, t, h, hj => by
    simp at h; subst h
    simp only [trCells, List.flatMap_cons, Nat.zero_mul, Nat.zero_add]
    rw [List.getElem?_append_left (by simp; omega)]
    simp
  | u :: ts, i + 1, j, t, h, hj => by
    have ih := trCells_get ts i j t (by simpa using h) hj
    simp only [trCells, List.flatMap_cons] at ih ⊢
    rw [List.getElem?_append_right (by simp; omega)]
    rw [← ih]
    congr 1
    simp
    omega
theorem trCells_set : ∀ (ts : List Tr) (i j : Nat) (t t' : Tr) (u : Value), ts[i]? = some t → j < 8 → (Tr.cs t).setIfInBounds j u = Tr.cs t' → (trCells ts).set (i * 8 + j) u = trCells (ts.set i t')
  | [], i, j, t, t', u, h, _, _ => by simp at h
  | v :: ts, 0, j, t, t', u, h, hj, he => by
    simp at h; subst h
    have e2 : (Tr.cs v).toList.set j u = (Tr.cs t').toList := by rw [← he]; simp
    simp only [trCells, List.flatMap_cons, List.set_cons_zero, Nat.zero_mul, Nat.zero_add]
    rw [List.set_append_left _ _ (by simp; omega), e2]
  | v :: ts, i + 1, j, t, t', u, h, hj, he => by
    have ih := trCells_set ts i j t t' u (by simpa using h) hj he
    simp only [trCells, List.flatMap_cons, List.set_cons_succ] at ih ⊢
    rw [List.set_append_right _ _ (by simp; omega), ← ih]
    congr 2
    simp
    omega
/-- A table that owns its things. -/
def TaO (n0 : Nat) (W : World) (v : Value) (ts : List Tr) : Prop :=
  W.ownsRow n0 37 8 v ts.length (trCells ts) ∧ ∀ t ∈ ts, ThO n0 W t.1 t.2.1 t.2.2 ∧ t.1.queue.length ≤ 3
theorem TaO.keep {n0 : Nat} {W W' : World} {v : Value} {ts : List Tr} (h : TaO n0 W v ts) (k : ∀ b T cs, n0 ≤ b → Box W b T cs → T = 37 ∨ T = 44 ∨ T = 3 → Box W' b T cs) : TaO n0 W' v ts := by
  refine ⟨⟨h.1.1, ?_⟩, fun t ht => ⟨(h.2 t ht).1.keep (fun b cs hb bx => k b _ cs hb bx (.inr (.inl rfl))) (fun b cs hb bx => k b _ cs hb bx (.inr (.inr rfl))), (h.2 t ht).2⟩⟩
  rcases h.1.2 with h4 | ⟨g, cap, cur, e, hb, hg, rest⟩
  · exact .inl h4
  · exact .inr ⟨g, cap, cur, e, hb, k g _ cur hb hg (.inl rfl), rest⟩
theorem TaO.stay {n0 : Nat} {W W' : World} {v : Value} {ts : List Tr} (h : TaO n0 W v ts) (hb : Below W.heap.size W W') : TaO n0 W' v ts := h.keep fun _ _ _ _ bx _ => bx.stay hb
theorem TaO.grew {n0 r : Nat} {W W' : World} {v : Value} {ts : List Tr} (h : TaO n0 W v ts) (hr : r < n0) (g : Grew r W W') : TaO n0 W' v ts := h.keep fun _ _ _ hb bx _ => bx.grew g (by omega)
/-- A store into a block that came later. -/
theorem TaO.fresh {n0 m : Nat} {W W' : World} {v : Value} {ts : List Tr} (h : TaO n0 W v ts) (hb : Below m W W') (hs : ∀ b T cs, Box W b T cs → T = 37 ∨ T = 44 ∨ T = 3 → n0 ≤ b → Box W' b T cs) : TaO n0 W' v ts := h.keep fun b T cs hn bx hT => hs b T cs bx hT hn
theorem TaO.form {n0 : Nat} {W : World} {v : Value} {ts : List Tr} (h : TaO n0 W v ts) (hn : 0 < ts.length) : ∃ g cap cur, v = .slice (some ⟨g, 0, none⟩) ts.length cap ∧ n0 ≤ g ∧ Box W g 37 cur ∧ ts.length ≤ cap ∧ cur.size = cap * 8 ∧ cur.toList.take (ts.length * 8) = trCells ts := by
  rcases h.1.2 with ⟨-, h0⟩ | ⟨g, cap, cur, e, hb, hg, h1, h2, h3, h4⟩
  · omega
  · exact ⟨g, cap, cur, e, hb, hg, h1, h3, h4⟩
/-- The cells of a thing of the table. -/
theorem TaO.at {n0 : Nat} {W : World} {g c : Nat} {ts : List Tr} {n : Nat} (h : TaO n0 W (.slice (some ⟨g, 0, none⟩) n c) ts) {i : Nat} {t : Tr} (ht : ts[i]? = some t) : At W g (i * 8) (Tr.cs t) := by
  intro j v hv
  have hj : j < 8 := by have := (Array.getElem?_eq_some_iff.1 hv).1; simpa [Tr.cs] using this
  have hi : i < ts.length := (List.getElem?_eq_some_iff.1 ht).1
  obtain ⟨g', cap, cur, e, hb, bx, h1, h3, h4⟩ := h.form (by omega)
  simp only [Value.slice.injEq, Option.some.injEq, Addr.mk.injEq] at e
  obtain ⟨⟨rfl, -, -⟩, -, -⟩ := e
  have h5 := trCells_get ts i j t ht hj
  rw [← h4, List.getElem?_take, hv] at h5
  rw [if_pos (by omega)] at h5
  exact bx.cell _ _ (by simpa using h5)
theorem TaO.thaw {n0 : Nat} {W : World} {g c : Nat} {ts : List Tr} {n : Nat} (h : TaO n0 W (.slice (some ⟨g, 0, none⟩) n c) ts) (hn : 0 < ts.length) (i : Nat) : W.frozen? ⟨g, i, none⟩ = false := by
  obtain ⟨g', cap, cur, e, hb, bx, h1, h3, h4⟩ := h.form hn
  simp only [Value.slice.injEq, Option.some.injEq, Addr.mk.injEq] at e
  obtain ⟨⟨rfl, -, -⟩, -, -⟩ := e
  exact bx.thaw i
theorem TaO.box {n0 : Nat} {W : World} {g c : Nat} {ts : List Tr} {n : Nat} (h : TaO n0 W (.slice (some ⟨g, 0, none⟩) n c) ts) (hn : 0 < ts.length) : n0 ≤ g ∧ ∃ cur, Box W g 37 cur := by
  obtain ⟨g', cap, cur, e, hb, bx, h1, h3, h4⟩ := h.form hn
  simp only [Value.slice.injEq, Option.some.injEq, Addr.mk.injEq] at e
  obtain ⟨⟨rfl, -, -⟩, -, -⟩ := e
  exact ⟨hb, cur, bx⟩
/-- A field of a thing of the table is stored. -/
theorem TaO.put {n0 : Nat} {W : World} {g c : Nat} {ts : List Tr} {n : Nat} (h : TaO n0 W (.slice (some ⟨g, 0, none⟩) n c) ts) {i : Nat} {t t' : Tr} (ht : ts[i]? = some t) (j : Nat) (hj : j < 8) (u : Value) (he : (Tr.cs t).setIfInBounds j u = Tr.cs t')
    (ho : ∀ W', ThO n0 W' t.1 t.2.1 t.2.2 → ThO n0 W' t'.1 t'.2.1 t'.2.2) (hq : t'.1.queue.length ≤ 3) : TaO n0 (W.setCell ⟨g, i * 8 + j, none⟩ u) (.slice (some ⟨g, 0, none⟩) n c) (ts.set i t') := by
  have hi : i < ts.length := (List.getElem?_eq_some_iff.1 ht).1
  obtain ⟨g', cap, cur, e, hb, bx, h1, h3, h4⟩ := h.form (by omega)
  simp only [Value.slice.injEq, Option.some.injEq, Addr.mk.injEq] at e
  obtain ⟨⟨rfl, -, -⟩, rfl, rfl⟩ := e
  have hm : c ≤ maxLen := by
    rcases h.1.2 with ⟨-, h0⟩ | ⟨g2, cap2, cur2, e2, _, _, _, h2, _⟩
    · omega
    · simp only [Value.slice.injEq] at e2; omega
  refine ⟨⟨by rw [trCells_len], .inr ⟨g, c, cur.setIfInBounds (i * 8 + j) u, by simp, hb, bx.put _ _, by simpa using h1, hm, by simpa using h3, ?_⟩⟩, fun x hx => ?_⟩
  · rw [← trCells_set ts i j t t' u ht hj he, ← h4]
    simp only [List.length_set, Array.toList_setIfInBounds]
    rw [List.take_set]
  · have hth : ∀ y ∈ ts, ThO n0 (W.setCell ⟨g, i * 8 + j, none⟩ u) y.1 y.2.1 y.2.2 := fun y hy => (h.2 y hy).1.put bx u
    rcases List.mem_or_eq_of_mem_set hx with hx | rfl
    · exact ⟨hth x hx, (h.2 x hx).2⟩
    · exact ⟨ho _ (hth t (List.mem_of_getElem? ht)), hq⟩
/-- A right is stored among the rights of the things. -/
theorem TaO.set5 {n0 : Nat} {W : World} {v : Value} {ts : List Tr} (h : TaO n0 W v ts) {b : Nat} {a1 a2 a3 a4 : R5} (bx : Box W b 44 (sl20 a1 a2 a3 a4)) (k : Nat) (hk : k < 4) (x : R5) :
    ∃ ts', ts'.length = ts.length ∧ (∀ i : Nat, ts'[i]?.map (fun t => t.2) = ts[i]?.map (fun t => t.2)) ∧ TaO n0 (Go.Proofs.YtpahahonopiblaaDoor.set5 W b (k * 5) x) v ts' := by
  have key : ∀ us : List Tr, (∀ t ∈ us, ThO n0 W t.1 t.2.1 t.2.2 ∧ t.1.queue.length ≤ 3) → ∃ us' : List Tr, us'.length = us.length ∧ trCells us' = trCells us ∧ (∀ i : Nat, us'[i]?.map (fun t => t.2) = us[i]?.map (fun t => t.2)) ∧ ∀ t ∈ us', ThO n0 (Go.Proofs.YtpahahonopiblaaDoor.set5 W b (k * 5) x) t.1 t.2.1 t.2.2 ∧ t.1.queue.length ≤ 3 := by
    intro us
    induction us with
    | nil => exact fun _ => ⟨[], rfl, rfl, fun i => rfl, fun t ht => by cases ht⟩
    | cons u us ih =>
      intro hu
      obtain ⟨us', l1, l2, l4, l3⟩ := ih (fun t ht => hu t (List.mem_cons_of_mem _ ht))
      obtain ⟨sl, -, hsl⟩ := (hu u List.mem_cons_self).1.set5 bx k hk x
      refine ⟨({ u.1 with slots := sl }, u.2) :: us', by simp [l1], ?_, fun i => ?_, fun t ht => ?_⟩
      · simp only [trCells, List.flatMap_cons] at l2 ⊢
        rw [l2]
      · cases i with
        | zero => simp
        | succ i => simpa using l4 i
      · rcases List.mem_cons.1 ht with rfl | ht
        · exact ⟨hsl, (hu u List.mem_cons_self).2⟩
        · exact l3 t ht
  obtain ⟨ts', l1, l2, l4, l3⟩ := key ts h.2
  refine ⟨ts', l1, l4, ⟨⟨by rw [l1, l2]; exact h.1.1, ?_⟩, l3⟩⟩
  rcases h.1.2 with ⟨e, h0⟩ | ⟨g, cap, cur, e, hb, hg, rest⟩
  · exact .inl ⟨e, by omega⟩
  · rw [l1, l2]
    exact .inr ⟨g, cap, cur, e, hb, set5_other (show Box W g 37 cur from hg) (Box.ne (show Box W g 37 cur from hg) bx (by decide)) x, rest⟩
/-- The table as it lies. -/
theorem TaO.hasT {n0 : Nat} {W : World} {s : Sl} {ts : List Tr} (h : TaO n0 W (.slice s.a s.n s.c) ts) : HasT W s (ts.map (·.1)) := by
  rcases h.1.2 with ⟨e, h0⟩ | ⟨g, cap, cur, e, hb, hg, h1, h2, h3, h4⟩
  · have : ts = [] := List.length_eq_zero_iff.1 h0
    subst this
    simp only [Value.slice.injEq] at e
    exact ⟨by simp [e.2.1], by omega, .inl rfl⟩
  · simp only [Value.slice.injEq] at e
    obtain ⟨e1, e2, e3⟩ := e
    refine ⟨by simp [e2], by omega, ?_⟩
    by_cases hn : ts = []
    · subst hn; exact .inl rfl
    · refine .inr ⟨g, 0, e1, fun i hi => ?_⟩
      have hi' : i < ts.length := by simpa using hi
      have ht : ts[i]? = some ts[i] := List.getElem?_eq_getElem hi'
      have hm := h.2 _ (List.getElem_mem hi')
      refine ⟨(ts[i]).2.1, (ts[i]).2.2, ?_, ?_, ?_⟩
      · simpa using hm.1.hasR'
      · simpa using hm.1.hasQ
      · have h' : TaO n0 W (.slice (some ⟨g, 0, none⟩) s.n s.c) ts := by rw [← e1]; exact h
        have := h'.at ht
        simpa using this
end Go.Proofs.YtpahahonopiblaaDoor

namespace Go.Proofs.YtpahahonopiblaaDoor
open Go.RowKit
set_option maxRecDepth 100000
set_option linter.unusedVariables false

theorem infoTh : (Tryd.prog.info? 37).map (fun i => (i.zero, i.size, i.bytes)) = some (some (.agg #[.int .i64 0, .int .i64 0, .int .i64 0, .int .i64 0, .int .i64 0, .slice none 0 0, .slice none 0 0, .int .i64 0]), 8, 96) := by kernel_rfl
/-- What an append leaves: the new row, and all that is no such row. -/
def Appd (n0 : Nat) (T TS : TypeId) (size : Nat) (W : World) (v : Value) (n : Nat) (xs : List Value) (news : Array Value) (ty : TypeId) : Prop :=
  ∃ g c w', (Builtin.append_ #[TS, TS] ty #[v, .slice (some ⟨W.heap.size, 0, none⟩) 1 1]).run Tryd.prog (W.alloc (.cells news T)) = .ok (.slice (some ⟨g, 0, none⟩) (n + 1) c) w' ∧
    w'.ownsRow n0 T size (.slice (some ⟨g, 0, none⟩) (n + 1) c) (n + 1) (xs ++ news.toList) ∧ (∀ b T' cs, T' ≠ T → Box W b T' cs → Box w' b T' cs) ∧ Below n0 W w' ∧ W.heap.size ≤ w'.heap.size
theorem append_row (n0 : Nat) (T TS : TypeId) (size bytes : Nat) (z : Value) (hinfo : (Tryd.prog.info? T).map (fun i => (i.zero, i.size, i.bytes)) = some (some z, size, bytes)) (hu : Tryd.prog.underlying TS = some (.slice T)) (hzs : z.cells.size = size) (hsz : 0 < size)
    (W : World) (v : Value) (n : Nat) (xs : List Value) (h : W.ownsRow n0 T size v n xs) (hl : n ≤ 1000) (hby : bytes ≤ 1000) (hn : n0 ≤ W.heap.size) (news : Array Value) (hns : news.size = size) (h1 : news.all (·.oneCell') = true) (ty : TypeId) :
    Appd n0 T TS size W v n xs news ty := by
  obtain ⟨i0, hi, hz0, hz1, hz2⟩ : ∃ i, Tryd.prog.info? T = some i ∧ i.zero = some z ∧ i.size = size ∧ i.bytes = bytes := by
    cases hq : Tryd.prog.info? T with
    | none => simp [hq] at hinfo
    | some i => simp [hq] at hinfo; exact ⟨i, rfl, hinfo⟩
  have hown : (W.alloc (.cells news T)).ownsRow n0 T size v n xs := by
    refine ⟨h.1, ?_⟩
    rcases h.2 with h2 | ⟨g, cap, cur, e, hb, hg, rest⟩
    · exact .inl h2
    · exact .inr ⟨g, cap, cur, e, hb, Box.past (show Box W g T cur from hg) _, rest⟩
  obtain ⟨v', w', hr, h2, h3, -⟩ := run_append_own (P := Tryd.prog) (W.alloc (.cells news T)) n0 TS ty T i0 z size bytes hu hi hz0 hz1 hz2 hzs hsz
    v n xs hown ⟨W.heap.size, 0, none⟩ 1 1 news.toList (by simp [hns])
    (fun j u hj => by
      have := (Box.fresh W T news).cell j u (by simpa using hj)
      rw [show (⟨W.heap.size, 0, none⟩ : Addr).add j = ⟨W.heap.size, j, none⟩ by unfold Addr.add; split <;> simp_all]
      exact this)
    (fun u hu => by
      have := Array.all_eq_true_iff_forall_mem.1 h1 u (by simpa using hu)
      exact this) (by simp [maxLen]; omega) (by
        have : (n + 1) * bytes ≤ 1001 * 1000 := Nat.mul_le_mul (by omega) hby
        omega) (by simp; omega)
  obtain ⟨g, c, rfl⟩ := ownsRow_succ h2
  have hob : ∀ b, b < n0 → some b ≠ v.ownBlock := by
    intro b hb e
    rcases hown.2 with ⟨e1, -⟩ | ⟨g1, c1, cur, e1, hb1, -⟩
    · rw [e1] at e; cases e
    · rw [e1] at e; simp [Value.ownBlock] at e; omega
  have hty : ∀ b T' cs, T' ≠ T → Box W b T' cs → some b ≠ v.ownBlock := by
    intro b T' cs hT hb e
    rcases hown.2 with ⟨e1, -⟩ | ⟨g1, c1, cur, e1, hb1, hg1, -⟩
    · rw [e1] at e; cases e
    · rw [e1] at e
      simp [Value.ownBlock] at e
      subst e
      have := (hb.past (.cells news T))
      unfold Box at this
      rw [hg1] at this
      cases this
      exact hT rfl
  refine ⟨g, c, w', hr, h2, fun b T' cs hT hb => (h3.block b (by simp; have := hb.lt; omega) (hty b T' cs hT hb)).trans (hb.past _), ?_, ?_⟩
  · exact ⟨h3.os.trans rfl, h3.tape.trans rfl, h3.output.trans rfl, by have := h3.size; simp at this; omega, fun k hk => (h3.block k (by simp; omega) (hob k hk)).trans (Below.heap_alloc W _ k (by omega))⟩
  · have := h3.size; simp at this; omega
theorem append_i (n0 : Nat) (W : World) (v : Value) (n : Nat) (xs : List Value) (h : W.ownsRow n0 3 1 v n xs) (hl : n ≤ 1000) (hn : n0 ≤ W.heap.size) (z : Int) (ty : TypeId) :
    Appd n0 3 35 1 W v n xs #[.int .i64 z] ty :=
  append_row n0 3 35 1 8 _ infoI Tryd.underlying35 rfl (by decide) W v n xs h hl (by decide) hn _ rfl (by simp [Value.oneCell']) ty
theorem append_t (n0 : Nat) (W : World) (v : Value) (ts : List Tr) (h : TaO n0 W v ts) (hl : ts.length ≤ 1000) (hn : n0 ≤ W.heap.size) (x : T8) (s q : Sl) (hx : ThO n0 W x s q) (hq : x.queue.length ≤ 3) (ty : TypeId) :
    ∃ g c w', (Builtin.append_ #[25, 25] ty #[v, .slice (some ⟨W.heap.size, 0, none⟩) 1 1]).run Tryd.prog (W.alloc (.cells (x.cs s q) 37)) = .ok (.slice (some ⟨g, 0, none⟩) (ts.length + 1) c) w' ∧
      TaO n0 w' (.slice (some ⟨g, 0, none⟩) (ts.length + 1) c) (ts ++ [(x, s, q)]) ∧ (∀ b T' cs, T' ≠ 37 → Box W b T' cs → Box w' b T' cs) ∧ Below n0 W w' ∧ W.heap.size ≤ w'.heap.size := by
  obtain ⟨g, c, w', hr, h2, hk, hb, hs⟩ := append_row n0 37 25 8 96 _ infoTh Tryd.underlying25 rfl (by decide) W v ts.length _ h.1 hl (by decide) hn (x.cs s q) rfl (by simp [Value.oneCell']) ty
  refine ⟨g, c, w', hr, ⟨?_, fun t ht => ?_⟩, hk, hb, hs⟩
  · have e : trCells (ts ++ [(x, s, q)]) = trCells ts ++ (x.cs s q).toList := by simp [trCells, List.flatMap_append]
    rw [e, List.length_append]
    exact h2
  · have kp : ∀ y : Tr, ThO n0 W y.1 y.2.1 y.2.2 → ThO n0 w' y.1 y.2.1 y.2.2 := fun y hy => hy.keep (fun b cs _ bx => hk b _ cs (by decide) bx) (fun b cs _ bx => hk b _ cs (by decide) bx)
    rcases List.mem_append.1 ht with ht | ht
    · exact ⟨kp t (h.2 t ht).1, (h.2 t ht).2⟩
    · simp at ht; subst ht
      exact ⟨kp (x, s, q) hx, hq⟩
/-- An append whose run is known, in a straight region. -/
theorem wpList_append_run {P : Program} {ops : Array Oper} {rest : List Oper} {o : Oper} {a : Act} {w : World} {Q : Exit → Act → World → Prop} (hgd : o.guard = none) (s x : Operand) (t : TypeId)
    (ho : o.op = .call { callee := .builtin .append, args := #[s, x], argTypes := #[t, t] }) (vs vx : Value) (hs : a.eval s = vs) (hx : a.eval x = vx) (v' : Value) (w' : World)
    (hr : (Builtin.append_ #[t, t] o.type #[vs, vx]).run P w = .ok v' w') (h : wpList P ops Q rest (a.put o.dst v') w') : wpList P ops Q (o :: rest) a w :=
  wpList_plain hgd fun _ hK => by
    unfold Oper.wp
    simp [execOp, ho, resolve, invoke, builtin, hs, hx, hr, Result.andThen]
    exact hK _ _ h
/-- A number of an own row. -/
theorem own_int {n0 : Nat} {W : World} {g c n : Nat} {ks : List Int} (h : W.ownsRow n0 3 1 (.slice (some ⟨g, 0, none⟩) n c) ks.length (ks.map fun z => Value.int .i64 z)) {i : Nat} (hi : i < ks.length) : W.cell? ⟨g, i, none⟩ = some (.int .i64 ks[i]) := by
  rcases h.2 with ⟨e, h0⟩ | ⟨g', cap, cur, e, hb, hg, h1, h2, h3, h4⟩
  · omega
  · simp only [Value.slice.injEq, Option.some.injEq, Addr.mk.injEq] at e
    obtain ⟨⟨rfl, -, -⟩, -, -⟩ := e
    have h5 : (cur.toList.take (ks.length * 1))[i]? = some (Value.int .i64 ks[i]) := by rw [h4]; simp [hi]
    rw [List.getElem?_take, if_pos (by omega)] at h5
    exact Box.cell (show Box W g 3 cur from hg) i _ (by simpa using h5)
theorem own_keep {n0 : Nat} {W W' : World} {e : TypeId} {size : Nat} {v : Value} {n : Nat} {xs : List Value} (h : W.ownsRow n0 e size v n xs) (k : ∀ b cs, n0 ≤ b → Box W b e cs → Box W' b e cs) : W'.ownsRow n0 e size v n xs := by
  refine ⟨h.1, ?_⟩
  rcases h.2 with h2 | ⟨g, cap, cur, e, hb, hg, rest⟩
  · exact .inl h2
  · exact .inr ⟨g, cap, cur, e, hb, k g cur hb hg, rest⟩
end Go.Proofs.YtpahahonopiblaaDoor
