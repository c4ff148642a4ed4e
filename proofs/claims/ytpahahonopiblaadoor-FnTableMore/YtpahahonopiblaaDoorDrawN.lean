/-
  Drawn kinds, labels and targets: whatever the code, they come, and nothing that was there has turned.
-/
import Derived.Test.YtpahahonopiblaaDoorDrawR
import Derived.Test.YtpahahonopiblaaDoorDrawL
import Derived.Test.YtpahahonopiblaaDoorThgB
namespace Go.Proofs.YtpahahonopiblaaDoor
open Go.RowKit
set_option maxRecDepth 100000
set_option linter.unusedVariables false

/-- A drawing call: nothing that was there has turned, the reader is new, these blocks are known. -/
def Dw (w : World) (r : Nat) (L : List Blk3) (x : World) : Prop := Below w.heap.size w x ∧ w.heap.size ≤ r ∧ r < x.heap.size ∧ ∀ t ∈ L, Box x t.1 t.2.1 t.2.2 ∧ t.1 ≠ r
section
variable {w x y : World} {r : Nat} {L : List Blk3}
theorem Dw.on (h : Dw w r L x) (g : Grew r x y) : Dw w r L y := ⟨h.1.trans (g.below h.2.1 h.1.size), h.2.1, Nat.lt_of_lt_of_le h.2.2.1 g.size, fun t ht => ⟨(h.2.2.2 t ht).1.grew g (h.2.2.2 t ht).2, (h.2.2.2 t ht).2⟩⟩
theorem Dw.stay (h : Dw w r L x) (hb : Below x.heap.size x y) : Dw w r L y := h.on (Grew.of hb)
theorem Dw.drew (h : Dw w r L x) : Dw w r L x.drew := ⟨h.1.drew, h.2.1, h.2.2.1, fun t ht => ⟨(h.2.2.2 t ht).1.drew, (h.2.2.2 t ht).2⟩⟩
theorem Dw.past (h : Dw w r L x) (o : Obj) : Dw w r L (x.alloc o) := h.on ((Grew.refl r x).alloc o)
theorem Dw.new (h : Dw w r L x) (T : TypeId) (vs : Array Value) : Dw w r ((x.heap.size, T, vs) :: L) (x.alloc (.cells vs T)) := by
  obtain ⟨a, b, c, d⟩ := h.past (.cells vs T)
  refine ⟨a, b, c, fun t ht => ?_⟩
  rcases List.mem_cons.1 ht with rfl | ht
  · exact ⟨Box.fresh _ _ _, by have := h.2.2.1; simp; omega⟩
  · exact d t ht
theorem Dw.box (h : Dw w r L x) {b : Nat} {T : TypeId} {vs : Array Value} (hm : (b, T, vs) ∈ L) : Box x b T vs := (h.2.2.2 _ hm).1
theorem Dw.c (h : Dw w r L x) {b : Nat} {T : TypeId} {vs : Array Value} (hm : (b, T, vs) ∈ L) (i : Nat) (v : Value) (hv : vs[i]? = some v) : x.cell? ⟨b, i, none⟩ = some v := (h.2.2.2 _ hm).1.cell i v hv
theorem Dw.f (h : Dw w r L x) {b : Nat} {T : TypeId} {vs : Array Value} (hm : (b, T, vs) ∈ L) (i : Nat) : x.frozen? ⟨b, i, none⟩ = false := (h.2.2.2 _ hm).1.thaw i
theorem Dw.ne (h : Dw w r L x) {b : Nat} {T : TypeId} {vs : Array Value} (hm : (b, T, vs) ∈ L) : b ≠ r := (h.2.2.2 _ hm).2
theorem Dw.less {L' : List Blk3} (h : Dw w r L x) (hs : ∀ t ∈ L', t ∈ L) : Dw w r L' x := ⟨h.1, h.2.1, h.2.2.1, fun t ht => h.2.2.2 t (hs t ht)⟩
theorem Dw.put {b : Nat} {T : TypeId} {vs : Array Value} (h : Dw w r ((b, T, vs) :: L) x) (hb : w.heap.size ≤ b) (hn : ∀ t ∈ L, t.1 ≠ b) (i : Nat) (u : Value) : Dw w r ((b, T, vs.setIfInBounds i u) :: L) (x.setCell ⟨b, i, none⟩ u) := by
  refine ⟨h.1.setCell hb u, h.2.1, by simpa [World.setCell] using h.2.2.1, fun t ht => ?_⟩
  rcases List.mem_cons.1 ht with rfl | ht
  · exact ⟨(h.box (by simp)).put i u, h.ne (T := T) (vs := vs) (by simp)⟩
  · exact ⟨(h.2.2.2 t (List.mem_cons_of_mem _ ht)).1.other (hn t ht) u, (h.2.2.2 t (List.mem_cons_of_mem _ ht)).2⟩
theorem Dw.row {b : Nat} {T : TypeId} {vs : Array Value} (h : Dw w r ((b, T, vs) :: L) x) (hb : w.heap.size ≤ b) (hn : ∀ t ∈ L, t.1 ≠ b) (us : Array Value) : Dw w r ((b, T, us) :: L) (x.setRow b us) := by
  refine ⟨h.1.trans (setRow_below hb us), h.2.1, by simpa [World.setRow] using h.2.2.1, fun t ht => ?_⟩
  rcases List.mem_cons.1 ht with rfl | ht
  · exact ⟨setRow_box (h.box (T := T) (vs := vs) (by simp)) us, h.ne (T := T) (vs := vs) (by simp)⟩
  · exact ⟨setRow_other (h.2.2.2 t (List.mem_cons_of_mem _ ht)).1 (hn t ht), (h.2.2.2 t (List.mem_cons_of_mem _ ht)).2⟩
end
/-- A reader just opened, over a world in which blocks are known. -/
theorem Dw.open {w y : World} {L : List Blk3} (h : Kn w L y) (vs : Array Value) (T : TypeId) : Dw w y.heap.size L (y.alloc (.cells vs T)) :=
  ⟨(h.past (.cells vs T)).1, h.1.size, by simp, fun t ht => ⟨(h.past (.cells vs T)).2 t ht, Nat.ne_of_lt (h.2 t ht).lt⟩⟩
theorem Rd.grewO {w w' : World} {r : Nat} {a : Option Addr} {len cap : Nat} {zs : List Int} {p : Nat} (h : Rd w r a len cap zs p) (hb : Below w.heap.size w w') : Rd w' r a len cap zs p := h.stay hb

theorem infoL : (Tryd.prog.info? 33).map (·.size) = some 2 := by kernel_rfl
theorem one2 (s v : Int) : (#[Value.int .i64 s, Value.int .i64 v] : Array Value).all (·.oneCell') = true := by simp [Value.oneCell']
/-- Three results, the middle one a block known whole. -/
theorem results_tmp_row_tmp {P : Program} {fn : Func} {p t1 t2 : Tmp} {ty : TypeId} (h : fn.results = #[.tmp t1, .cell p ty, .tmp t2]) (tmps : Array Value) (w : World) (g : Nat) (t : TypeId) (cs : Array Value) (d : TypeDesc)
    (hp : tmps.getD p undef = .pointer (some ⟨g, 0, none⟩)) (hg : Box w g t cs)
    (hu : P.underlying ty = some d) (hd : (match d with | .struct _ | .array _ _ => true | _ => false) = true) (hi : (P.info? ty).map (·.size) = some cs.size) :
    (results fn tmps).run P w = .ok (.tuple #[tmps.getD t1 undef, .agg cs, tmps.getD t2 undef]) w := by
  have hp' : tmps[p]?.getD undef = .pointer (some ⟨g, 0, none⟩) := by simpa using hp
  simp [results, h, hp', asAddr, run_loadVar_row w g t ty cs (0, 0) d hg hu hd hi]
end Go.Proofs.YtpahahonopiblaaDoor
