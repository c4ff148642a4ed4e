/-
  Drawn pairs of labels: whatever the code, two labels come, and nothing that was there has turned.
-/
import Derived.Test.YtiooefcdlemodaaDrawL
import Derived.Test.YtiooefcdlemodaaLabE
namespace Go.Proofs.Ytiooefcdlemodaa
open Go.RowKit

theorem IsRow.below {k : IntKind} {w w' : World} {a : Option Addr} {len cap : Nat} {zs : List Int} (h : IsRow k w a len cap zs) (hb : Below w.heap.size w w') : IsRow k w' a len cap zs := by
  rcases h with h | ⟨x, e, hl, hm, hz, hc, hw⟩
  · exact .inl h
  · refine .inr ⟨x, e, hl, hm, hz, fun i hi => ?_, hw⟩
    have h1 := hc i hi
    have hlt : (x.add i).block < w.heap.size := by
      rcases Nat.lt_or_ge (x.add i).block w.heap.size with hlt | hge
      · exact hlt
      · simp [World.cell?, Array.getElem?_eq_none hge] at h1
    exact (hb.cell hlt).trans h1

/-- The reader that spec.l6Open made. -/
theorem rd_open {w : World} {a : Option Addr} {len cap : Nat} {zs : List Int} (h : IsRow .u8 w a len cap zs) :
    Rd (w.alloc (.cells #[.slice a (min len 2000) cap, .int .i64 0] 50)) w.heap.size a (min len 2000) cap zs 0 := by
  have hC := code_of_row h
  have hn : ∀ b o, a = some ⟨b, o, none⟩ → 0 < min len 2000 → b ≠ w.heap.size := by
    rintro b o rfl h0
    obtain ⟨b', o', e, hb, _⟩ := hC.2.2.2 h0
    injection e with e
    injection e with e1 e2
    omega
  exact ⟨Box.fresh _ _ _, hC.grew ((Grew.refl w.heap.size w).alloc _) hn, hn⟩

/-- What a drawn pair leaves. -/
def PairPost (w : World) (e : Ending) (w' : World) : Prop :=
  ∃ s v s2 v2 : Int, e = .returned (.tuple #[lab s v, lab s2 v2]) ∧ Below w.heap.size w w'

/-- The two results' cells, and what was there, when the reader has been made and has gone on. -/
theorem res2 {w w3 : World} {T T' : TypeId} {x1 x2 x3 : Array Value} (g : Grew (w.heap.size + 1 + 1) (((w.alloc (.cells x1 T)).alloc (.cells x2 T)).alloc (.cells x3 T')) w3) :
    Box w3 w.heap.size T x1 ∧ Box w3 (w.heap.size + 1) T x2 ∧ Below w.heap.size w w3 ∧ w.heap.size + 2 < w3.heap.size := by
  have e1 : (w.alloc (.cells x1 T)).heap.size = w.heap.size + 1 := by simp
  have b1 := Box.fresh w T x1
  have b2 := Box.fresh (w.alloc (.cells x1 T)) T x2
  rw [e1] at b2
  have z := g.size
  simp at z
  have a0 : Below w.heap.size w (((w.alloc (.cells x1 T)).alloc (.cells x2 T)).alloc (.cells x3 T')) := (((Below.refl _ _).alloc (Nat.le_refl _) _).alloc (by simp) _).alloc (by simp; omega) _
  exact ⟨((b1.past _).past _).grew g (by omega), (b2.past _).grew g (by omega), a0.trans (g.below (by omega) (by simp; omega)), by omega⟩

set_option maxHeartbeats 1000000 in
theorem drawJoin_any (a : Option Addr) (len cap : Nat) (zs : List Int) (w : World) (h : IsRow .u8 w a len cap zs) :
    Calls Try.prog 17 #[.slice a len cap] w (PairPost w) := by
  have h0 := (h.below ((Below.refl _ _).alloc (Nat.le_refl _) (.cells #[.int .i64 0, .int .i64 0] 24)))
  have H := Lib.hid (h0.below ((Below.refl _ _).alloc (Nat.le_refl _) (.cells #[.int .i64 0, .int .i64 0] 24)))
  clear h h0
  go_enter Try.func17, Try.ntmps17
  go_wp2_with fail
  refine (l6Open_any a len cap zs _ H.out).mono ?_
  rintro e w1 ⟨rfl, rfl⟩
  have hR0 := rd_open H.out
  rw [show (((w.alloc (.cells #[.int .i64 0, .int .i64 0] 24)).alloc (.cells #[.int .i64 0, .int .i64 0] 24)).heap.size) = w.heap.size + 1 + 1 by simp] at hR0
  have R0 := Lib.hid hR0
  clear hR0
  go_wp2_with fail
  refine (l71Label_any _ a _ cap zs 0 _ R0.out (by omega)).mono ?_
  rintro e w2 ⟨s, v, s0, s1, v0, rfl, p1, hp1, r1, gr1⟩
  have R1 := Lib.hid r1
  clear r1
  go_wp2_with fail
  refine (l71Label_any _ a _ cap zs p1 _ R1.out (by omega)).mono ?_
  rintro e w3 ⟨s2, v2, s3, s4, v3, rfl, p2, hp2, r2, gr2⟩
  obtain ⟨k1, k2, hw3, hz3⟩ := res2 (gr1.trans gr2)
  have c0 := k1.cell 0 _ rfl
  have c1 := k1.cell 1 _ rfl
  have c2 := k2.cell 0 _ rfl
  have c3 := k2.cell 1 _ rfl
  have t0 := k1.thaw 0
  have t1 := k1.thaw 1
  have t2 := k2.thaw 0
  have t3 := k2.thaw 1
  clear k1 k2 gr1 gr2 r2 R0 R1
  go_wp2_with fail
  refine bodyPost_ret (v := .tuple #[lab s v, lab s2 v2]) (by simp [results, Try.results17, go_sem, *]) rfl ⟨s, v, s2, v2, rfl, ?_⟩
  exact (((hw3.setCell (by show _ ≤ w.heap.size; omega) _).setCell (by show _ ≤ w.heap.size; omega) _).setCell (by show _ ≤ w.heap.size + 1; omega) _).setCell (by show _ ≤ w.heap.size + 1; omega) _

set_option maxHeartbeats 1000000 in
theorem drawMeet_any (a : Option Addr) (len cap : Nat) (zs : List Int) (w : World) (h : IsRow .u8 w a len cap zs) :
    Calls Try.prog 20 #[.slice a len cap] w (PairPost w) := by
  have h0 := (h.below ((Below.refl _ _).alloc (Nat.le_refl _) (.cells #[.int .i64 0, .int .i64 0] 24)))
  have H := Lib.hid (h0.below ((Below.refl _ _).alloc (Nat.le_refl _) (.cells #[.int .i64 0, .int .i64 0] 24)))
  clear h h0
  go_enter Try.func20, Try.ntmps20
  go_wp2_with fail
  refine (l6Open_any a len cap zs _ H.out).mono ?_
  rintro e w1 ⟨rfl, rfl⟩
  have hR0 := rd_open H.out
  rw [show (((w.alloc (.cells #[.int .i64 0, .int .i64 0] 24)).alloc (.cells #[.int .i64 0, .int .i64 0] 24)).heap.size) = w.heap.size + 1 + 1 by simp] at hR0
  have R0 := Lib.hid hR0
  clear hR0
  go_wp2_with fail
  refine (l71Label_any _ a _ cap zs 0 _ R0.out (by omega)).mono ?_
  rintro e w2 ⟨s, v, s0, s1, v0, rfl, p1, hp1, r1, gr1⟩
  have R1 := Lib.hid r1
  clear r1
  go_wp2_with fail
  refine (l71Label_any _ a _ cap zs p1 _ R1.out (by omega)).mono ?_
  rintro e w3 ⟨s2, v2, s3, s4, v3, rfl, p2, hp2, r2, gr2⟩
  obtain ⟨k1, k2, hw3, hz3⟩ := res2 (gr1.trans gr2)
  have c0 := k1.cell 0 _ rfl
  have c1 := k1.cell 1 _ rfl
  have c2 := k2.cell 0 _ rfl
  have c3 := k2.cell 1 _ rfl
  have t0 := k1.thaw 0
  have t1 := k1.thaw 1
  have t2 := k2.thaw 0
  have t3 := k2.thaw 1
  clear k1 k2 gr1 gr2 r2 R0 R1
  go_wp2_with fail
  refine bodyPost_ret (v := .tuple #[lab s v, lab s2 v2]) (by simp [results, Try.results20, go_sem, *]) rfl ⟨s, v, s2, v2, rfl, ?_⟩
  exact (((hw3.setCell (by show _ ≤ w.heap.size; omega) _).setCell (by show _ ≤ w.heap.size; omega) _).setCell (by show _ ≤ w.heap.size + 1; omega) _).setCell (by show _ ≤ w.heap.size + 1; omega) _

set_option maxHeartbeats 600000 in
theorem drawFlow_any (a : Option Addr) (len cap : Nat) (zs : List Int) (w : World) (h : IsRow .u8 w a len cap zs) :
    Calls Try.prog 12 #[.slice a len cap] w (PairPost w) := by
  have h0 := (h.below ((Below.refl _ _).alloc (Nat.le_refl _) (.cells #[.int .i64 0, .int .i64 0] 24)))
  have H := Lib.hid (h0.below ((Below.refl _ _).alloc (Nat.le_refl _) (.cells #[.int .i64 0, .int .i64 0] 24)))
  clear h h0
  go_enter Try.func12, Try.ntmps12
  go_wp2_with fail
  refine (l6Open_any a len cap zs _ H.out).mono ?_
  rintro e w1 ⟨rfl, rfl⟩
  have hR0 := rd_open H.out
  rw [show (((w.alloc (.cells #[.int .i64 0, .int .i64 0] 24)).alloc (.cells #[.int .i64 0, .int .i64 0] 24)).heap.size) = w.heap.size + 1 + 1 by simp] at hR0
  have R0 := Lib.hid hR0
  clear hR0
  go_wp2_with fail
  refine (l71Label_any _ a _ cap zs 0 _ R0.out (by omega)).mono ?_
  rintro e w2 ⟨s, v, s0, s1, v0, rfl, p1, hp1, r1, gr1⟩
  have R1 := Lib.hid (r1.past (.cells #[.int .i64 s, .int .i64 v] 24))
  clear r1
  go_wp2_with fail
  refine (l71Label_any _ a _ cap zs p1 _ R1.out (by omega)).mono ?_
  rintro e w3 ⟨s2, v2, s3, s4, v3, rfl, p2, hp2, r2, gr2⟩
  have R2 := Lib.hid (r2.past (.cells #[.int .i64 s2, .int .i64 v2] 24))
  clear r2
  go_wp2_with fail
  refine (pick_any _ a _ cap zs p2 2 _ R2.out (by omega) (by omega) (by omega)).mono ?_
  rintro e w4 ⟨z, z0, z1, rfl, r3, gr3, sz3⟩
  clear sz3
  obtain ⟨k1, k2, hw4, hz4⟩ := res2 (((gr1.alloc (.cells #[.int .i64 s, .int .i64 v] 24)).trans gr2).alloc (.cells #[.int .i64 s2, .int .i64 v2] 24) |>.trans gr3)
  have q1 := gr1.size
  simp at q1
  have q2 := gr2.size
  simp at q2
  have a1 := (((Box.fresh w2 24 #[.int .i64 s, .int .i64 v]).grew gr2 (by omega)).past (.cells #[.int .i64 s2, .int .i64 v2] 24)).grew gr3 (by omega)
  have a2 := (Box.fresh w3 24 #[.int .i64 s2, .int .i64 v2]).grew gr3 (by omega)
  have n1 : w2.heap.size ≠ w.heap.size := by omega
  have n2 : w2.heap.size ≠ w.heap.size + 1 := by omega
  have n3 : w3.heap.size ≠ w.heap.size := by omega
  have n4 : w3.heap.size ≠ w.heap.size + 1 := by omega
  clear gr1 gr2 gr3 r3 R0 R1 R2 q1 q2 H
  by_cases hz : z = 0
  · subst hz
    have K1 := Lib.hid k1
    have K2 := Lib.hid k2
    have A1 := Lib.hid a1
    have A2 := Lib.hid a2
    have d0 := a1.cell 0 _ rfl
    have d1 := a1.cell 1 _ rfl
    have d2 := a2.cell 0 _ rfl
    have d3 := a2.cell 1 _ rfl
    clear k1 k2 a1 a2
    go_wp2_with fail
    have FX := Lib.hid (fun w' (h : Below w.heap.size w w') (x1 : Box w' w2.heap.size 24 #[.int .i64 s, .int .i64 v]) (x2 : Box w' w3.heap.size 24 #[.int .i64 s2, .int .i64 v2]) => And.intro h (And.intro (x1.cell 0 _ rfl) (And.intro (x1.cell 1 _ rfl) (And.intro (x2.cell 0 _ rfl) (x2.cell 1 _ rfl)))))
    go_region_held3 (fun w' => Below w.heap.size w w' ∧ w'.cell? ⟨w2.heap.size, 0, none⟩ = some (.int .i64 s) ∧ w'.cell? ⟨w2.heap.size, 1, none⟩ = some (.int .i64 v) ∧ w'.cell? ⟨w3.heap.size, 0, none⟩ = some (.int .i64 s2) ∧ w'.cell? ⟨w3.heap.size, 1, none⟩ = some (.int .i64 v2))
      (first
        | exact FX.out _ hw4.drew A1.out.drew A2.out.drew
        | exact FX.out _ hw5 a1 a2
        | exact FX.out _ (Below.setCell (Below.setCell hw5 (p := ⟨w.heap.size, 0, none⟩) (by show w.heap.size ≤ w.heap.size; omega) _) (p := ⟨w.heap.size, 1, none⟩) (by show w.heap.size ≤ w.heap.size; omega) _) (Box.other (Box.other a1 (p := ⟨w.heap.size, 0, none⟩) n1 _) (p := ⟨w.heap.size, 1, none⟩) n1 _) (Box.other (Box.other a2 (p := ⟨w.heap.size, 0, none⟩) n3 _) (p := ⟨w.heap.size, 1, none⟩) n3 _)
        | exact FX.out _ (Below.setCell (Below.setCell (Below.setCell (Below.setCell hw5 (p := ⟨w.heap.size, 0, none⟩) (by show w.heap.size ≤ w.heap.size; omega) _) (p := ⟨w.heap.size, 1, none⟩) (by show w.heap.size ≤ w.heap.size; omega) _) (p := ⟨w.heap.size + 1, 0, none⟩) (by show w.heap.size ≤ w.heap.size + 1; omega) _) (p := ⟨w.heap.size + 1, 1, none⟩) (by show w.heap.size ≤ w.heap.size + 1; omega) _) (Box.other (Box.other (Box.other (Box.other a1 (p := ⟨w.heap.size, 0, none⟩) n1 _) (p := ⟨w.heap.size, 1, none⟩) n1 _) (p := ⟨w.heap.size + 1, 0, none⟩) n2 _) (p := ⟨w.heap.size + 1, 1, none⟩) n2 _) (Box.other (Box.other (Box.other (Box.other a2 (p := ⟨w.heap.size, 0, none⟩) n3 _) (p := ⟨w.heap.size, 1, none⟩) n3 _) (p := ⟨w.heap.size + 1, 0, none⟩) n4 _) (p := ⟨w.heap.size + 1, 1, none⟩) n4 _))
      (first
        | (go_at_call 19; refine (specJoin_any _ _ _ _ _).mono ?_; rintro e w5 ⟨rfl, hb5⟩; have hw5 := onB (‹Below w.heap.size w _ ∧ _›).1 (Nat.le_refl _) hb5; have k1 := K1.out.drew.stay hb5; have k2 := K2.out.drew.stay hb5; have a1 := A1.out.drew.stay hb5; have a2 := A2.out.drew.stay hb5; have c0 := k1.cell 0 _ rfl; have c1 := k1.cell 1 _ rfl; have c2 := k2.cell 0 _ rfl; have c3 := k2.cell 1 _ rfl; have t0 := k1.thaw 0; have t1 := k1.thaw 1; have t2 := k2.thaw 0; have t3 := k2.thaw 1))
    go_wp2
    refine bodyPost_ret (v := .tuple #[lab s v, lab (jn1 s v s2 v2) (jn2 s v s2 v2)]) (by simp [results, Try.results12, go_sem, *]) rfl ⟨s, v, _, _, rfl, ?_⟩
    exact (‹Below w.heap.size w (World.setCell _ _ _) ∧ _›).1
  · have hzb : (z == 0) = false := by simpa using hz
    have K1 := Lib.hid k1
    have K2 := Lib.hid k2
    have A1 := Lib.hid a1
    have A2 := Lib.hid a2
    have c0 := k1.cell 0 _ rfl
    have c1 := k1.cell 1 _ rfl
    have c2 := k2.cell 0 _ rfl
    have c3 := k2.cell 1 _ rfl
    have t0 := k1.thaw 0
    have t1 := k1.thaw 1
    have t2 := k2.thaw 0
    have t3 := k2.thaw 1
    have d0 := a1.cell 0 _ rfl
    have d1 := a1.cell 1 _ rfl
    have d2 := a2.cell 0 _ rfl
    have d3 := a2.cell 1 _ rfl
    clear k1 k2 a1 a2
    go_wp2_with fail
    go_region
    all_goals
      go_wp2
      refine bodyPost_ret (v := .tuple #[lab s v, lab s2 v2]) (by simp [results, Try.results12, go_sem, *]) rfl ⟨s, v, s2, v2, rfl, ?_⟩
      repeat (first | exact hw4 | refine Below.drew ?_ | refine Below.setCell ?_ (by dsimp only; omega) _)
end Go.Proofs.Ytiooefcdlemodaa
