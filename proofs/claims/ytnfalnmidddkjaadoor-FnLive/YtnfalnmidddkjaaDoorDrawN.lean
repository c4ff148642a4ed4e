/-
  Drawn kinds, labels and targets: whatever the code, they come, and nothing that was there has turned.
-/
import Derived.Test.YtnfalnmidddkjaaDoorDrawR
import Derived.Test.YtnfalnmidddkjaaDoorDrawL
import Derived.Test.YtnfalnmidddkjaaDoorThgB
namespace Go.Proofs.YtnfalnmidddkjaaDoor
open Go.RowKit
set_option maxRecDepth 100000
set_option linter.unusedVariables false

/-- A drawing call: nothing that was there has turned, the reader is new, these blocks are known. -/
def Dw (w : World) (r : Nat) (L : List Blk3) (x : World) : Prop := Below w.heap.size w x ∧ w.heap.size ≤ r ∧ r < x.heap.size ∧ ∀ t ∈ L, Box x t.1 t.2.1 t.2.2 ∧ t.1 ≠ r
section
variable {w x y : World} {r : Nat} {L : List Blk3}
theorem Dw.on (h : Dw w r L x) (g : Grew r x y) : Dw w r L y := ⟨h.1.trans (g.below h.2.1 h.1.size), h.2.1, Nat.lt_of_lt_of_le h.2.2.1 g.size, fun t ht => ⟨(h.2.2.2 t ht).1.grew g (h.2.2.2 t ht).2, (h.2.2.2 t ht).2⟩⟩
theorem Dw.stay (h : Dw w r L x) (hb : Below x.heap.size x y) : Dw w r L y := h.on (Grew.of hb)
theorem Dw.drew (h : Dw w r L x) : Dw w r L x.drew := ⟨h.1.drew, h.2.1, h.2.2.1, fun t ht => ⟨(h.2.2.2 t ht).1.drew, (h.2.2.2 t ht).2⟩⟩
theorem Dw.past (h : Dw w r L x) (o : Obj) : Dw w r L (x.alloc o) := h.on ((Grew.refl r x).alloc o)
theorem Dw.new (h : Dw w r L x) (T : TypeId) (vs : Array Value) : Dw w r ((x.heap.size, T, vs) :: L) (x.alloc (.cells vs T)) := by
  obtain ⟨a, b, c, d⟩ := h.past (.cells vs T)
  refine ⟨a, b, c, fun t ht => ?_⟩
  rcases List.mem_cons.1 ht with rfl | ht
  · exact ⟨Box.fresh _ _ _, by have := h.2.2.1; simp; omega⟩
  · exact d t ht
theorem Dw.box (h : Dw w r L x) {b : Nat} {T : TypeId} {vs : Array Value} (hm : (b, T, vs) ∈ L) : Box x b T vs := (h.2.2.2 _ hm).1
theorem Dw.c (h : Dw w r L x) {b : Nat} {T : TypeId} {vs : Array Value} (hm : (b, T, vs) ∈ L) (i : Nat) (v : Value) (hv : vs[i]? = some v) : x.cell? ⟨b, i, none⟩ = some v := (h.2.2.2 _ hm).1.cell i v hv
theorem Dw.f (h : Dw w r L x) {b : Nat} {T : TypeId} {vs : Array Value} (hm : (b, T, vs) ∈ L) (i : Nat) : x.frozen? ⟨b, i, none⟩ = false := (h.2.2.2 _ hm).1.thaw i
theorem Dw.ne (h : Dw w r L x) {b : Nat} {T : TypeId} {vs : Array Value} (hm : (b, T, vs) ∈ L) : b ≠ r := (h.2.2.2 _ hm).2
theorem Dw.less {L' : List Blk3} (h : Dw w r L x) (hs : ∀ t ∈ L', t ∈ L) : Dw w r L' x := ⟨h.1, h.2.1, h.2.2.1, fun t ht => h.2.2.2 t (hs t ht)⟩
theorem Dw.put {b : Nat} {T : TypeId} {vs : Array Value} (h : Dw w r ((b, T, vs) :: L) x) (hb : w.heap.size ≤ b) (hn : ∀ t ∈ L, t.1 ≠ b) (i : Nat) (u : Value) : Dw w r ((b, T, vs.setIfInBounds i u) :: L) (x.setCell ⟨b, i, none⟩ u) := by
  refine ⟨h.1.setCell hb u, h.2.1, by simpa [World.setCell] using h.2.2.1, fun t ht => ?_⟩
  rcases List.mem_cons.1 ht with rfl | ht
  · exact ⟨(h.box (by simp)).put i u, h.ne (T := T) (vs := vs) (by simp)⟩
  · exact ⟨(h.2.2.2 t (List.mem_cons_of_mem _ ht)).1.other (hn t ht) u, (h.2.2.2 t (List.mem_cons_of_mem _ ht)).2⟩
theorem Dw.row {b : Nat} {T : TypeId} {vs : Array Value} (h : Dw w r ((b, T, vs) :: L) x) (hb : w.heap.size ≤ b) (hn : ∀ t ∈ L, t.1 ≠ b) (us : Array Value) : Dw w r ((b, T, us) :: L) (x.setRow b us) := by
  refine ⟨h.1.trans (setRow_below hb us), h.2.1, by simpa [World.setRow] using h.2.2.1, fun t ht => ?_⟩
  rcases List.mem_cons.1 ht with rfl | ht
  · exact ⟨setRow_box (h.box (T := T) (vs := vs) (by simp)) us, h.ne (T := T) (vs := vs) (by simp)⟩
  · exact ⟨setRow_other (h.2.2.2 t (List.mem_cons_of_mem _ ht)).1 (hn t ht), (h.2.2.2 t (List.mem_cons_of_mem _ ht)).2⟩
end
/-- A reader just opened, over a world in which blocks are known. -/
theorem Dw.open {w y : World} {L : List Blk3} (h : Kn w L y) (vs : Array Value) (T : TypeId) : Dw w y.heap.size L (y.alloc (.cells vs T)) :=
  ⟨(h.past (.cells vs T)).1, h.1.size, by simp, fun t ht => ⟨(h.past (.cells vs T)).2 t ht, Nat.ne_of_lt (h.2 t ht).lt⟩⟩
theorem Rd.grewO {w w' : World} {r : Nat} {a : Option Addr} {len cap : Nat} {zs : List Int} {p : Nat} (h : Rd w r a len cap zs p) (hb : Below w.heap.size w w') : Rd w' r a len cap zs p := h.stay hb

theorem infoL : (Tryd.prog.info? 24).map (·.size) = some 2 := by kernel_rfl
theorem one2 (s v : Int) : (#[Value.int .i64 s, Value.int .i64 v] : Array Value).all (·.oneCell') = true := by simp [Value.oneCell']
/-- Three results, the middle one a block known whole. -/
theorem results_tmp_row_tmp {P : Program} {fn : Func} {p t1 t2 : Tmp} {ty : TypeId} (h : fn.results = #[.tmp t1, .cell p ty, .tmp t2]) (tmps : Array Value) (w : World) (g : Nat) (t : TypeId) (cs : Array Value) (d : TypeDesc)
    (hp : tmps.getD p undef = .pointer (some ⟨g, 0, none⟩)) (hg : Box w g t cs)
    (hu : P.underlying ty = some d) (hd : (match d with | .struct _ | .array _ _ => true | _ => false) = true) (hi : (P.info? ty).map (·.size) = some cs.size) :
    (results fn tmps).run P w = .ok (.tuple #[tmps.getD t1 undef, .agg cs, tmps.getD t2 undef]) w := by
  have hp' : tmps[p]?.getD undef = .pointer (some ⟨g, 0, none⟩) := by simpa using hp
  simp [results, h, hp', asAddr, run_loadVar_row w g t ty cs (0, 0) d hg hu hd hi]

/-- What is drawn for a new thing. -/
def DTNPost (w : World) (e : Ending) (w' : World) : Prop := ∃ kind s v tt : Int, e = .returned (.tuple #[.int .i64 kind, lab s v, .int .i64 tt]) ∧ Below w.heap.size w w'
set_option maxHeartbeats 4000000 in
theorem drawTNew_any (a : Option Addr) (len cap : Nat) (zs : List Int) (w : World) (h : IsRow .u8 w a len cap zs) :
    Calls Tryd.prog 15 #[.slice a len cap] w (DTNPost w) := by
  have K0 := (Kn.refl (w := w)).new 24 #[.int .i64 0, .int .i64 0]
  have H := Lib.hid (h.below K0.1)
  have HK := Lib.hid K0
  clear h K0
  go_enter Tryd.func15, Tryd.ntmps15
  go_wp2_with fail
  refine (l6Open_any a len cap zs _ H.out).mono ?_
  rintro e w1 ⟨rfl, rfl⟩
  have hR0 := rd_open H.out
  have D0 := Dw.open HK.out #[.slice a (min len 2000) cap, .int .i64 0] 102
  rw [show (w.alloc (.cells #[.int .i64 0, .int .i64 0] 24)).heap.size = w.heap.size + 1 by simp] at hR0 D0
  have R0 := Lib.hid hR0
  have HD0 := Lib.hid D0
  clear hR0 D0
  go_wp2_with fail
  refine (pick_any _ a _ cap zs 0 5 _ R0.out (by omega) (by decide) (by decide)).mono ?_
  rintro e w2 ⟨x1, x1a, x1b, rfl, r1, g1, -⟩
  have R1 := Lib.hid r1
  have HD1 := Lib.hid (HD0.out.on g1)
  clear r1 g1 R0 HD0
  have e1 : wrap64 (1 + x1) = 1 + x1 := by unfold wrap64; omega
  by_cases h5 : x1 = 4
  · subst h5
    clear e1
    go_wp2_with fail
    refine (pick_any _ a _ cap zs 1 8 _ R1.out (by omega) (by decide) (by decide)).mono ?_
    rintro e w3 ⟨x2, x2a, x2b, rfl, r2, g2, -⟩
    have R2 := Lib.hid r2
    have HD2 := Lib.hid (HD1.out.on g2)
    clear r2 g2 R1 HD1
    have e2 : wrap64 (1 + x2) = 1 + x2 := by unfold wrap64; omega
    go_wp2_with fail
    refine (pick_any _ a _ cap zs 2 12 _ R2.out (by omega) (by decide) (by decide)).mono ?_
    rintro e w4 ⟨x3, x3a, x3b, rfl, r3, g3, -⟩
    have R3 := Lib.hid r3
    have HD3 := Lib.hid (HD2.out.on g3)
    clear r3 g3 R2 HD2
    by_cases h0 : x3 = 0
    · subst h0
      go_wp2_with fail
      refine (pick_any _ a _ cap zs 3 8 _ R3.out (by omega) (by decide) (by decide)).mono ?_
      rintro e w5 ⟨y1, y1a, y1b, rfl, r4, g4, -⟩
      have R4 := Lib.hid r4
      have HD4 := Lib.hid (HD3.out.on g4)
      clear r4 g4 R3 HD3
      go_wp2_with fail
      refine (l71Label_any _ a _ cap zs 4 _ R4.out (by omega)).mono ?_
      rintro e w6 ⟨sv, vv, s0, s1, v1, rfl, p5, hp5, r5, g5⟩
      have R5 := Lib.hid r5
      have HD5 := Lib.hid (HD4.out.on g5)
      clear r5 g5 R4 HD4
      go_wp2_with fail
      refine (pick_any _ a _ cap zs p5 10 _ R5.out (by omega) (by decide) (by decide)).mono ?_
      rintro e w7 ⟨y2, y2a, y2b, rfl, r6, g6, -⟩
      have HD6 := Lib.hid (HD5.out.on g6)
      clear r6 g6 R5 HD5
      have bR := HD6.out.box (b := w.heap.size) (T := 24) (vs := #[.int .i64 0, .int .i64 0]) (by simp)
      go_wp2_with (first
        | refine wpList_store_rowTo rfl 24 (.tmp 3) (.tmp 24) rfl rfl w.heap.size #[.int .i64 sv, .int .i64 vv] rfl rfl 24 #[.int .i64 0, .int .i64 0] bR infoL rfl (one2 _ _) ?_
        | refine wpList_store_rowTo rfl 24 (.tmp 3) (.tmp 29) rfl rfl w.heap.size #[.int .i64 sv, .int .i64 vv] rfl rfl 24 #[.int .i64 0, .int .i64 0] bR infoL rfl (one2 _ _) ?_)
      refine bodyPost_ret (results_tmp_row_tmp Tryd.results15 _ _ w.heap.size 24 #[.int .i64 sv, .int .i64 vv] _ rfl (setRow_box bR _) Tryd.underlying24 rfl infoL) rfl ⟨_, _, _, _, rfl, ?_⟩
      exact HD6.out.1.trans (setRow_below (Nat.le_refl _) _)
    · have h0' : (x3 == 0) = false := by simpa using h0
      go_wp2_with fail
      refine (l71Label_any _ a _ cap zs 3 _ R3.out (by omega)).mono ?_
      rintro e w6 ⟨sv, vv, s0, s1, v1, rfl, p5, hp5, r5, g5⟩
      have HD5 := Lib.hid (HD3.out.on g5)
      clear r5 g5 R3 HD3
      have bR := HD5.out.box (b := w.heap.size) (T := 24) (vs := #[.int .i64 0, .int .i64 0]) (by simp)
      go_wp2_with (first
        | refine wpList_store_rowTo rfl 24 (.tmp 3) (.tmp 24) rfl rfl w.heap.size #[.int .i64 sv, .int .i64 vv] rfl rfl 24 #[.int .i64 0, .int .i64 0] bR infoL rfl (one2 _ _) ?_
        | refine wpList_store_rowTo rfl 24 (.tmp 3) (.tmp 29) rfl rfl w.heap.size #[.int .i64 sv, .int .i64 vv] rfl rfl 24 #[.int .i64 0, .int .i64 0] bR infoL rfl (one2 _ _) ?_)
      refine bodyPost_ret (results_tmp_row_tmp Tryd.results15 _ _ w.heap.size 24 #[.int .i64 sv, .int .i64 vv] _ rfl (setRow_box bR _) Tryd.underlying24 rfl infoL) rfl ⟨_, _, _, _, rfl, ?_⟩
      exact HD5.out.1.trans (setRow_below (Nat.le_refl _) _)
  · have h5' : (1 + x1 == 5) = false := by simp; omega
    go_wp2_with fail
    refine (pick_any _ a _ cap zs 1 12 _ R1.out (by omega) (by decide) (by decide)).mono ?_
    rintro e w4 ⟨x3, x3a, x3b, rfl, r3, g3, -⟩
    have R3 := Lib.hid r3
    have HD3 := Lib.hid (HD1.out.on g3)
    clear r3 g3 R1 HD1
    by_cases h0 : x3 = 0
    · subst h0
      go_wp2_with fail
      refine (pick_any _ a _ cap zs 2 8 _ R3.out (by omega) (by decide) (by decide)).mono ?_
      rintro e w5 ⟨y1, y1a, y1b, rfl, r4, g4, -⟩
      have R4 := Lib.hid r4
      have HD4 := Lib.hid (HD3.out.on g4)
      clear r4 g4 R3 HD3
      go_wp2_with fail
      refine (l71Label_any _ a _ cap zs 3 _ R4.out (by omega)).mono ?_
      rintro e w6 ⟨sv, vv, s0, s1, v1, rfl, p5, hp5, r5, g5⟩
      have R5 := Lib.hid r5
      have HD5 := Lib.hid (HD4.out.on g5)
      clear r5 g5 R4 HD4
      go_wp2_with fail
      refine (pick_any _ a _ cap zs p5 10 _ R5.out (by omega) (by decide) (by decide)).mono ?_
      rintro e w7 ⟨y2, y2a, y2b, rfl, r6, g6, -⟩
      have HD6 := Lib.hid (HD5.out.on g6)
      clear r6 g6 R5 HD5
      have bR := HD6.out.box (b := w.heap.size) (T := 24) (vs := #[.int .i64 0, .int .i64 0]) (by simp)
      go_wp2_with (first
        | refine wpList_store_rowTo rfl 24 (.tmp 3) (.tmp 24) rfl rfl w.heap.size #[.int .i64 sv, .int .i64 vv] rfl rfl 24 #[.int .i64 0, .int .i64 0] bR infoL rfl (one2 _ _) ?_
        | refine wpList_store_rowTo rfl 24 (.tmp 3) (.tmp 29) rfl rfl w.heap.size #[.int .i64 sv, .int .i64 vv] rfl rfl 24 #[.int .i64 0, .int .i64 0] bR infoL rfl (one2 _ _) ?_)
      refine bodyPost_ret (results_tmp_row_tmp Tryd.results15 _ _ w.heap.size 24 #[.int .i64 sv, .int .i64 vv] _ rfl (setRow_box bR _) Tryd.underlying24 rfl infoL) rfl ⟨_, _, _, _, rfl, ?_⟩
      exact HD6.out.1.trans (setRow_below (Nat.le_refl _) _)
    · have h0' : (x3 == 0) = false := by simpa using h0
      go_wp2_with fail
      refine (l71Label_any _ a _ cap zs 2 _ R3.out (by omega)).mono ?_
      rintro e w6 ⟨sv, vv, s0, s1, v1, rfl, p5, hp5, r5, g5⟩
      have HD5 := Lib.hid (HD3.out.on g5)
      clear r5 g5 R3 HD3
      have bR := HD5.out.box (b := w.heap.size) (T := 24) (vs := #[.int .i64 0, .int .i64 0]) (by simp)
      go_wp2_with (first
        | refine wpList_store_rowTo rfl 24 (.tmp 3) (.tmp 24) rfl rfl w.heap.size #[.int .i64 sv, .int .i64 vv] rfl rfl 24 #[.int .i64 0, .int .i64 0] bR infoL rfl (one2 _ _) ?_
        | refine wpList_store_rowTo rfl 24 (.tmp 3) (.tmp 29) rfl rfl w.heap.size #[.int .i64 sv, .int .i64 vv] rfl rfl 24 #[.int .i64 0, .int .i64 0] bR infoL rfl (one2 _ _) ?_)
      refine bodyPost_ret (results_tmp_row_tmp Tryd.results15 _ _ w.heap.size 24 #[.int .i64 sv, .int .i64 vv] _ rfl (setRow_box bR _) Tryd.underlying24 rfl infoL) rfl ⟨_, _, _, _, rfl, ?_⟩
      exact HD5.out.1.trans (setRow_below (Nat.le_refl _) _)
end Go.Proofs.YtnfalnmidddkjaaDoor
