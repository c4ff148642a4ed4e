/-
  Things that own their rights and their numbers, and a reader beside them.
-/
import Derived.Test.YtjbhcbjokeaagaaDoorDrawN
import Derived.Test.YtjbhcbjokeaagaaDoorTNewO
import Derived.Test.YtjbhcbjokeaagaaDoorThgB
import Derived.RangeFuncBox
import Derived.Maps.AppendAt
namespace Go.Proofs.YtjbhcbjokeaagaaDoor
open Go.RowKit
set_option maxRecDepth 100000
set_option linter.unusedVariables false

/-- A thing that owns what it holds: four rights or none, numbers. -/
def ThO (n0 : Nat) (W : World) (x : T8) (s q : Sl) : Prop :=
  ((s.n = 0 ∧ x.slots = []) ∨ ∃ b a1 a2 a3 a4, n0 ≤ b ∧ s = ⟨some ⟨b, 0, none⟩, 4, 4⟩ ∧ Box W b 38 (sl20 a1 a2 a3 a4) ∧ x.slots = [a1, a2, a3, a4]) ∧
  q.n = x.queue.length ∧ W.ownsRow n0 3 1 (.slice q.a q.n q.c) q.n (x.queue.map fun n => Value.int .i64 n)
theorem ThO.keep {n0 : Nat} {W W' : World} {x : T8} {s q : Sl} (h : ThO n0 W x s q) (k1 : ∀ b cs, n0 ≤ b → Box W b 38 cs → Box W' b 38 cs) (k2 : ∀ b cs, n0 ≤ b → Box W b 3 cs → Box W' b 3 cs) : ThO n0 W' x s q := by
  obtain ⟨h1, h2, h3, h4⟩ := h
  refine ⟨?_, h2, h3, ?_⟩
  · rcases h1 with h1 | ⟨b, a1, a2, a3, a4, hb, e, bx, hx⟩
    · exact .inl h1
    · exact .inr ⟨b, a1, a2, a3, a4, hb, e, k1 _ _ hb bx, hx⟩
  · rcases h4 with h4 | ⟨g, cap, cur, e, hb, hg, rest⟩
    · exact .inl h4
    · exact .inr ⟨g, cap, cur, e, hb, k2 g cur hb hg, rest⟩
theorem ThO.stay {n0 : Nat} {W W' : World} {x : T8} {s q : Sl} (h : ThO n0 W x s q) (hb : Below W.heap.size W W') : ThO n0 W' x s q := h.keep (fun _ _ _ b => b.stay hb) (fun _ _ _ b => b.stay hb)
theorem ThO.grew {n0 r : Nat} {W W' : World} {x : T8} {s q : Sl} (h : ThO n0 W x s q) (hr : r < n0) (g : Grew r W W') : ThO n0 W' x s q := h.keep (fun _ _ hb b => b.grew g (by omega)) (fun _ _ hb b => b.grew g (by omega))
theorem ThO.put {n0 : Nat} {W : World} {x : T8} {s q : Sl} (h : ThO n0 W x s q) {b i : Nat} {cs : Array Value} (hb : Box W b 36 cs) (u : Value) : ThO n0 (W.setCell ⟨b, i, none⟩ u) x s q :=
  h.keep (fun _ _ _ k => k.other (Box.ne k hb (by decide)) u) (fun _ _ _ k => k.other (Box.ne k hb (by decide)) u)
theorem ThO.row {n0 : Nat} {W : World} {x : T8} {s q : Sl} (h : ThO n0 W x s q) {b : Nat} {cs : Array Value} (hb : Box W b 36 cs) (us : Array Value) : ThO n0 (W.setRow b us) x s q :=
  h.keep (fun _ _ _ k => setRow_other k (Box.ne k hb (by decide))) (fun _ _ _ k => setRow_other k (Box.ne k hb (by decide)))
theorem ThO.less {n0 n1 : Nat} {W : World} {x : T8} {s q : Sl} (h : ThO n1 W x s q) (hn : n0 ≤ n1) : ThO n0 W x s q := by
  obtain ⟨h1, h2, h3, h4⟩ := h
  refine ⟨?_, h2, h3, ?_⟩
  · rcases h1 with h1 | ⟨b, a1, a2, a3, a4, hb, e, bx, hx⟩
    · exact .inl h1
    · exact .inr ⟨b, a1, a2, a3, a4, by omega, e, bx, hx⟩
  · rcases h4 with h4 | ⟨g, cap, cur, e, hb, hg, rest⟩
    · exact .inl h4
    · exact .inr ⟨g, cap, cur, e, by omega, hg, rest⟩
/-- A thing with the same rights and numbers. -/
theorem ThO.as {n0 : Nat} {W : World} {x y : T8} {s q : Sl} (h : ThO n0 W x s q) (h1 : y.slots = x.slots) (h2 : y.queue = x.queue) : ThO n0 W y s q := by
  unfold ThO at h ⊢
  rw [h1, h2]
  exact h
theorem four_has {W : World} {b : Nat} {T : TypeId} {a1 a2 a3 a4 : R5} (bx : Box W b T (sl20 a1 a2 a3 a4)) : HasR W ⟨some ⟨b, 0, none⟩, 4, 4⟩ [a1, a2, a3, a4] := by
  refine ⟨rfl, Nat.le_refl _, .inr ⟨_, _, rfl, fun i x hx j v hv => ?_⟩⟩
  match i, hx with
  | 0, hx => simp at hx; subst hx; match j, hv with
    | 0, hv => exact bx.cell _ _ hv
    | 1, hv => exact bx.cell _ _ hv
    | 2, hv => exact bx.cell _ _ hv
    | 3, hv => exact bx.cell _ _ hv
    | 4, hv => exact bx.cell _ _ hv
    | j + 5, hv => simp at hv
  | 1, hx => simp at hx; subst hx; match j, hv with
    | 0, hv => exact bx.cell _ _ hv
    | 1, hv => exact bx.cell _ _ hv
    | 2, hv => exact bx.cell _ _ hv
    | 3, hv => exact bx.cell _ _ hv
    | 4, hv => exact bx.cell _ _ hv
    | j + 5, hv => simp at hv
  | 2, hx => simp at hx; subst hx; match j, hv with
    | 0, hv => exact bx.cell _ _ hv
    | 1, hv => exact bx.cell _ _ hv
    | 2, hv => exact bx.cell _ _ hv
    | 3, hv => exact bx.cell _ _ hv
    | 4, hv => exact bx.cell _ _ hv
    | j + 5, hv => simp at hv
  | 3, hx => simp at hx; subst hx; match j, hv with
    | 0, hv => exact bx.cell _ _ hv
    | 1, hv => exact bx.cell _ _ hv
    | 2, hv => exact bx.cell _ _ hv
    | 3, hv => exact bx.cell _ _ hv
    | 4, hv => exact bx.cell _ _ hv
    | j + 5, hv => simp at hv
  | i + 4, hx => simp at hx
theorem ThO.hasR {n0 : Nat} {W : World} {x : T8} {s q : Sl} (h : ThO n0 W x s q) (hc : s.n ≤ s.c) : HasR W s x.slots := by
  rcases h.1 with ⟨h1, h2⟩ | ⟨b, a1, a2, a3, a4, hb, rfl, bx, hx⟩
  · rw [h2]; exact ⟨h1, hc, .inl rfl⟩
  · rw [hx]; exact four_has bx
theorem ThO.hasR' {n0 : Nat} {W : World} {x : T8} {s q : Sl} (h : ThO n0 W x s q) : HasR W s x.slots := h.hasR (by
  rcases h.1 with ⟨h1, h2⟩ | ⟨b, a1, a2, a3, a4, hb, rfl, bx, hx⟩
  · omega
  · exact Nat.le_refl _)
theorem ThO.hasQ {n0 : Nat} {W : World} {x : T8} {s q : Sl} (h : ThO n0 W x s q) : HasQ W q x.queue := by
  obtain ⟨-, h2, h3, h4⟩ := h
  rcases h4 with ⟨e, h0⟩ | ⟨g, cap, cur, e, hb, hg, hn, hm, hz, ht⟩
  · have hq : x.queue = [] := List.length_eq_zero_iff.1 (by omega)
    rw [hq]
    injection e with e1 e2 e3
    exact ⟨by simp; omega, by omega, .inl rfl⟩
  · injection e with e1 e2 e3
    refine ⟨by simp; omega, by omega, .inr ⟨g, 0, e1, fun i y hy j v hv => ?_⟩⟩
    simp only [List.getElem?_map, Option.map_eq_some_iff] at hy
    obtain ⟨z, hz1, rfl⟩ := hy
    obtain rfl : j = 0 := by
      have := (Array.getElem?_eq_some_iff.1 hv).1
      simp at this; omega
    simp at hv
    subst hv
    have hi : i < x.queue.length := (List.getElem?_eq_some_iff.1 hz1).1
    have h5 : (cur.toList.take (q.n * 1))[i]? = some (Value.int .i64 z) := by rw [ht]; simp [hz1]
    rw [List.getElem?_take] at h5
    simp only [show i < q.n * 1 by omega, if_true] at h5
    have h6 := Box.cell (show Box W g 3 cur from hg) i (.int .i64 z) (by simpa using h5)
    simpa using h6
theorem ThO.slots_le {n0 : Nat} {W : World} {x : T8} {s q : Sl} (h : ThO n0 W x s q) : x.slots.length ≤ 4 := by
  rcases h.1 with ⟨h1, h2⟩ | ⟨b, a1, a2, a3, a4, hb, rfl, bx, hx⟩
  · rw [h2]; simp
  · rw [hx]; simp

/-- The model's ThingNew: none, or a thing that owns what it holds. -/
def NewTh (w : World) (e : Ending) (y : World) : Prop :=
  ∃ (x : T8) (s q : Sl) (ok : Bool), e = .returned (.tuple #[x.val s q, .bool ok]) ∧ (x.kind = 0 ∨ (1 ≤ x.kind ∧ x.kind ≤ 5 ∧ x.queue = [] ∧ ThO w.heap.size y x s q)) ∧ Below w.heap.size w y
theorem okT_kind {x : T8} (h : okT x = true) : 1 ≤ x.kind ∧ x.kind ≤ 5 := by
  simp only [okT, okT1, Bool.and_eq_true] at h
  have h1 := h.1.1
  simpa [inR] using h1
theorem newPostO_th {kind sec vou tt : Int} {w y : World} {e : Ending} (h : NewPostO kind sec vou tt w e y) (ho : okT (newT kind sec vou tt) = true) :
    ∃ (s q : Sl), e = .returned (.tuple #[(newT kind sec vou tt).val s q, .bool true]) ∧ ThO w.heap.size y (newT kind sec vou tt) s q := by
  rcases h with ⟨⟨h, -⟩ | ⟨-, s, q, he, h1, h2, h3⟩, hb⟩
  · exact absurd (ho.symm.trans h) (by decide)
  · refine ⟨s, q, he, ?_, h2, by rw [h2] at h3 ⊢; exact h3⟩
    rcases h1 with ⟨hk, hn⟩ | ⟨hk, b, hb, e, bx⟩
    · exact .inl ⟨hn, by simp [newT, hk]⟩
    · exact .inr ⟨b, ⟨0, 0, false, false, false⟩, ⟨0, 0, false, false, false⟩, ⟨0, 0, false, false, false⟩, ⟨0, 0, false, false, false⟩, hb, e, bx, by simp [newT, hk]⟩
theorem specTNew_th (kind sec vou tt : Int) (w : World) :
    Calls Tryd.prog 66 #[.int .i64 kind, lab sec vou, .int .i64 tt] w (NewTh w) :=
  (specTNewO_any kind sec vou tt w).mono fun e y h => by
    cases ho : okT (newT kind sec vou tt)
    · rcases h with ⟨⟨-, he⟩ | ⟨h, -⟩, hb⟩
      · exact ⟨zeroT, ⟨none, 0, 0⟩, ⟨none, 0, 0⟩, false, he, .inl rfl, hb⟩
      · exact absurd (ho.symm.trans h) (by decide)
    · obtain ⟨s, q, he, ht⟩ := newPostO_th h ho
      obtain ⟨k1, k5⟩ := okT_kind ho
      exact ⟨_, s, q, true, he, .inr ⟨k1, k5, rfl, ht⟩, h.2⟩
theorem specTNew_page (w : World) :
    Calls Tryd.prog 66 #[.int .i64 1, lab 0 0, .int .i64 0] w fun e y => ∃ (x : T8) (s q : Sl), e = .returned (.tuple #[x.val s q, .bool true]) ∧ x.kind = 1 ∧ x.queue = [] ∧ ThO w.heap.size y x s q ∧ Below w.heap.size w y :=
  (specTNewO_any 1 0 0 0 w).mono fun e y h => by
    obtain ⟨s, q, he, ht⟩ := newPostO_th h (by decide)
    exact ⟨_, s, q, he, rfl, rfl, ht, h.2⟩

/-! A drawing call with a reader that was there. -/
def St (w : World) (r : Nat) (a : Option Addr) (len cap : Nat) (zs : List Int) (p : Nat) (L : List Blk3) (W : World) : Prop := KnR r w L W ∧ Rd W r a len cap zs p ∧ r < w.heap.size ∧ ∀ b o, a = some ⟨b, o, none⟩ → 0 < len → b < w.heap.size
section
variable {w W W' : World} {r : Nat} {a : Option Addr} {len cap : Nat} {zs : List Int} {p p' : Nat} {L : List Blk3}
theorem St.start (h : Rd w r a len cap zs p) : St w r a len cap zs p [] w := ⟨KnR.start r w, h, h.lt, h.code⟩
theorem St.on (h : St w r a len cap zs p L W) (g : Grew r W W') (hR : Rd W' r a len cap zs p') : St w r a len cap zs p' L W' := ⟨h.1.on g, hR, h.2.2⟩
theorem St.stay (h : St w r a len cap zs p L W) (hb : Below W.heap.size W W') : St w r a len cap zs p L W' := ⟨h.1.stay hb, h.2.1.stay hb, h.2.2⟩
theorem St.drew (h : St w r a len cap zs p L W) : St w r a len cap zs p L W.drew := ⟨h.1.drew, h.2.1.drew, h.2.2⟩
theorem St.new (h : St w r a len cap zs p L W) (T : TypeId) (vs : Array Value) : St w r a len cap zs p ((W.heap.size, T, vs) :: L) (W.alloc (.cells vs T)) := ⟨h.1.new h.2.2.1 T vs, h.2.1.past _, h.2.2⟩
theorem St.past (h : St w r a len cap zs p L W) (o : Obj) : St w r a len cap zs p L (W.alloc o) := ⟨h.1.past o, h.2.1.past _, h.2.2⟩
theorem St.put {b : Nat} {T : TypeId} {vs : Array Value} (h : St w r a len cap zs p ((b, T, vs) :: L) W) (hn : ∀ t ∈ L, t.1 ≠ b) (i : Nat) (u : Value) : St w r a len cap zs p ((b, T, vs.setIfInBounds i u) :: L) (W.setCell ⟨b, i, none⟩ u) := by
  have h2 := (h.1.2 (b, T, vs) (by simp)).2
  exact ⟨h.1.put hn i u, h.2.1.other u h2.1 (fun b' o e hl => by have := h.2.2.2 b' o e hl; have h3 : w.heap.size ≤ b := h2.2; dsimp only; omega), h.2.2⟩
theorem Rd.keepB {n0 : Nat} (h : Rd W r a len cap zs p) (hr : r < n0) (hc : ∀ b o, a = some ⟨b, o, none⟩ → 0 < len → b < n0) (hb : Below n0 W W') : Rd W' r a len cap zs p := by
  obtain ⟨h1, h2, h3⟩ := h
  refine ⟨(hb.block r hr).trans h1, ?_, h3⟩
  have hg : Grew r W W' → Code W' a len cap zs := fun g => h2.grew g h3
  obtain ⟨c1, c2, c3, c4⟩ := h2
  refine ⟨c1, c2, c3, fun hl => ?_⟩
  obtain ⟨b, o, e, hb1, hc1⟩ := c4 hl
  refine ⟨b, o, e, Nat.lt_of_lt_of_le hb1 hb.size, fun i hi => ?_⟩
  exact ⟨(hb.cell (p := ⟨b, o + i, none⟩) (hc b o e hl)).trans (hc1 i hi).1, (hc1 i hi).2⟩
theorem St.row {b : Nat} {T : TypeId} {vs : Array Value} (h : St w r a len cap zs p ((b, T, vs) :: L) W) (hn : ∀ t ∈ L, t.1 ≠ b) (us : Array Value) : St w r a len cap zs p ((b, T, us) :: L) (W.setRow b us) := by
  have h2 := (h.1.2 (b, T, vs) (by simp)).2
  have hsb : w.heap.size ≤ b := h2.2
  have hbl : Below w.heap.size W (W.setRow b us) := setRow_below hsb us
  refine ⟨⟨⟨h.1.1.os, h.1.1.tape, h.1.1.output, by simpa [World.setRow] using h.1.1.size, fun k hk hkr => (hbl.block k hk).trans (h.1.1.block k hk hkr)⟩, fun t ht => ?_⟩, h.2.1.keepB h.2.2.1 h.2.2.2 hbl, h.2.2⟩
  rcases List.mem_cons.1 ht with rfl | ht
  · exact ⟨setRow_box (h.1.2 (b, T, vs) (by simp)).1 us, h2⟩
  · exact ⟨setRow_other (h.1.2 t (List.mem_cons_of_mem _ ht)).1 (hn t ht), (h.1.2 t (List.mem_cons_of_mem _ ht)).2⟩
theorem St.less {L' : List Blk3} (h : St w r a len cap zs p L W) (hs : ∀ t ∈ L', t ∈ L) : St w r a len cap zs p L' W := ⟨h.1.less hs, h.2⟩
end
theorem results_row {P : Program} {fn : Func} {p : Tmp} {ty : TypeId} (h : fn.results = #[.cell p ty]) (tmps : Array Value) (w : World) (g : Nat) (t : TypeId) (cs : Array Value) (d : TypeDesc)
    (hp : tmps.getD p undef = .pointer (some ⟨g, 0, none⟩)) (hg : Box w g t cs)
    (hu : P.underlying ty = some d) (hd : (match d with | .struct _ | .array _ _ => true | _ => false) = true) (hi : (P.info? ty).map (·.size) = some cs.size) :
    (results fn tmps).run P w = .ok (.agg cs) w := results_cell_row h tmps w g t cs (0, 0) d hp hg hu hd hi
end Go.Proofs.YtjbhcbjokeaagaaDoor
