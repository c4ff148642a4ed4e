/-
  A drawn right: whatever the code, spec.l71Right hands back a right whose numbers are small, and only moves the reader on.
-/
import Derived.Test.YtpahahonopiblaaDoorDraw
import Derived.Test.YtpahahonopiblaaDoorRigS
namespace Go.Proofs.YtpahahonopiblaaDoor
open Go.RowKit
set_option maxRecDepth 100000
set_option linter.unusedVariables false

/-- A reader has gone on, and these blocks of the call's own are known. -/
def KnR (r : Nat) (w : World) (L : List Blk3) (x : World) : Prop := Grew r w x ∧ ∀ t ∈ L, Box x t.1 t.2.1 t.2.2 ∧ t.1 ≠ r ∧ w.heap.size ≤ t.1
section
variable {r : Nat} {w x y : World} {L : List Blk3}
theorem KnR.start (r : Nat) (w : World) : KnR r w [] w := ⟨Grew.refl r w, fun _ h => by cases h⟩
theorem KnR.on (h : KnR r w L x) (g : Grew r x y) : KnR r w L y := ⟨h.1.trans g, fun t ht => ⟨(h.2 t ht).1.grew g (h.2 t ht).2.1, (h.2 t ht).2⟩⟩
theorem KnR.stay (h : KnR r w L x) (hb : Below x.heap.size x y) : KnR r w L y := h.on (Grew.of hb)
theorem KnR.drew (h : KnR r w L x) : KnR r w L x.drew := ⟨h.1.drew, fun t ht => ⟨(h.2 t ht).1.drew, (h.2 t ht).2⟩⟩
theorem KnR.past (h : KnR r w L x) (o : Obj) : KnR r w L (x.alloc o) := h.on ((Grew.refl r x).alloc o)
theorem KnR.new (h : KnR r w L x) (hr : r < w.heap.size) (T : TypeId) (vs : Array Value) : KnR r w ((x.heap.size, T, vs) :: L) (x.alloc (.cells vs T)) :=
  ⟨h.1.alloc _, fun t ht => by
    have hz := h.1.size
    rcases List.mem_cons.1 ht with rfl | ht
    · exact ⟨Box.fresh _ _ _, by dsimp only; omega, hz⟩
    · exact ⟨(h.2 t ht).1.past _, (h.2 t ht).2⟩⟩
theorem KnR.box (h : KnR r w L x) {b : Nat} {T : TypeId} {vs : Array Value} (hm : (b, T, vs) ∈ L) : Box x b T vs := (h.2 _ hm).1
theorem KnR.c (h : KnR r w L x) {b : Nat} {T : TypeId} {vs : Array Value} (hm : (b, T, vs) ∈ L) (i : Nat) (v : Value) (hv : vs[i]? = some v) : x.cell? ⟨b, i, none⟩ = some v := (h.2 _ hm).1.cell i v hv
theorem KnR.f (h : KnR r w L x) {b : Nat} {T : TypeId} {vs : Array Value} (hm : (b, T, vs) ∈ L) (i : Nat) : x.frozen? ⟨b, i, none⟩ = false := (h.2 _ hm).1.thaw i
theorem KnR.less {L' : List Blk3} (h : KnR r w L x) (hs : ∀ t ∈ L', t ∈ L) : KnR r w L' x := ⟨h.1, fun t ht => h.2 t (hs t ht)⟩
/-- A store into the first of the blocks. -/
theorem KnR.put {b : Nat} {T : TypeId} {vs : Array Value} (h : KnR r w ((b, T, vs) :: L) x) (hn : ∀ t ∈ L, t.1 ≠ b) (i : Nat) (u : Value) : KnR r w ((b, T, vs.setIfInBounds i u) :: L) (x.setCell ⟨b, i, none⟩ u) := by
  have hb := h.2 _ List.mem_cons_self
  refine ⟨h.1.put (.inr hb.2.2) u, fun t ht => ?_⟩
  rcases List.mem_cons.1 ht with rfl | ht
  · exact ⟨hb.1.put i u, hb.2⟩
  · have := h.2 t (List.mem_cons_of_mem _ ht)
    exact ⟨this.1.other (p := ⟨b, i, none⟩) (hn t ht) u, this.2⟩
end

/-- What a drawn right leaves. -/
def RigPost (r : Nat) (a : Option Addr) (len cap : Nat) (zs : List Int) (p : Nat) (w : World) (e : Ending) (w' : World) : Prop :=
  ∃ (t v : Int) (rd wr k : Bool), -1 ≤ t ∧ t ≤ 9 ∧ -1 ≤ v ∧ v ≤ 6 ∧ e = .returned (rgt t v rd wr k) ∧ ∃ p', p' ≤ p + 10 ∧ Rd w' r a len cap zs p' ∧ Grew r w w'

set_option maxHeartbeats 2000000 in
theorem l71Right_any (r : Nat) (a : Option Addr) (len cap : Nat) (zs : List Int) (p : Nat) (w : World) (hR : Rd w r a len cap zs p) (hp : p ≤ 900000) :
    Calls Tryd.prog 96 #[.pointer (some ⟨r, 0, none⟩)] w (RigPost r a len cap zs p w) := by
  have hr := hR.lt
  have hcode : ∀ b o, a = some ⟨b, o, none⟩ → 0 < len → b ≠ w.heap.size := fun b o e h0 => by have := hR.code b o e h0; omega
  have hcode2 := hR.code
  have K0 := (KnR.start r w).new hr 44 #[.int .i64 0, .int .i64 0, .bool false, .bool false, .bool false]
  have HR0 := Lib.hid (hR.past (.cells #[.int .i64 0, .int .i64 0, .bool false, .bool false, .bool false] 44))
  have HK0 := Lib.hid K0
  have HC := Lib.hid hcode
  have HC2 := Lib.hid hcode2
  clear hR K0 hcode hcode2
  go_enter Tryd.func96, Tryd.ntmps96
  go_wp2_with fail
  refine (pick_any r a len cap zs _ 6 _ HR0.out (by omega) (by omega) (by omega)).mono ?_
  rintro e x1 ⟨z1, z10, z11, rfl, R1, G1, s1⟩
  have K1 := HK0.out.on G1
  have HR1 := Lib.hid R1
  clear s1 R1 G1 HK0 HR0
  by_cases hz1 : z1 = 0
  · subst hz1
    have hcode := HC.out
    have d0 := K1.c (b := w.heap.size) (T := 44) (vs := #[.int .i64 0, .int .i64 0, .bool false, .bool false, .bool false]) (by simp) 0 _ rfl
    have df0 := K1.f (b := w.heap.size) (T := 44) (vs := #[.int .i64 0, .int .i64 0, .bool false, .bool false, .bool false]) (by simp) 0
    have d1 := K1.c (b := w.heap.size) (T := 44) (vs := #[.int .i64 0, .int .i64 0, .bool false, .bool false, .bool false]) (by simp) 1 _ rfl
    have df1 := K1.f (b := w.heap.size) (T := 44) (vs := #[.int .i64 0, .int .i64 0, .bool false, .bool false, .bool false]) (by simp) 1
    have d2 := K1.c (b := w.heap.size) (T := 44) (vs := #[.int .i64 0, .int .i64 0, .bool false, .bool false, .bool false]) (by simp) 2 _ rfl
    have df2 := K1.f (b := w.heap.size) (T := 44) (vs := #[.int .i64 0, .int .i64 0, .bool false, .bool false, .bool false]) (by simp) 2
    have d3 := K1.c (b := w.heap.size) (T := 44) (vs := #[.int .i64 0, .int .i64 0, .bool false, .bool false, .bool false]) (by simp) 3 _ rfl
    have df3 := K1.f (b := w.heap.size) (T := 44) (vs := #[.int .i64 0, .int .i64 0, .bool false, .bool false, .bool false]) (by simp) 3
    have d4 := K1.c (b := w.heap.size) (T := 44) (vs := #[.int .i64 0, .int .i64 0, .bool false, .bool false, .bool false]) (by simp) 4 _ rfl
    have df4 := K1.f (b := w.heap.size) (T := 44) (vs := #[.int .i64 0, .int .i64 0, .bool false, .bool false, .bool false]) (by simp) 4
    have HK := Lib.hid K1
    clear K1 HC HC2
    have HCC := Lib.hid hcode
    clear hcode
    go_wp2_with fail
    have hcode := HCC.out
    refine bodyPost_ret (v := .agg #[.int .i64 0, .int .i64 0, .bool false, .bool false, .bool false]) (by simp [results, Tryd.results96, go_sem, *]) rfl ?_
    exact ⟨0, 0, false, false, false, by omega, by omega, by omega, by omega, rfl, _, by omega, (Rd.other (Rd.other (Rd.other (Rd.other (Rd.other HR1.out (q := ⟨w.heap.size, 0, none⟩) _ (by dsimp only; omega) hcode) (q := ⟨w.heap.size, 1, none⟩) _ (by dsimp only; omega) hcode) (q := ⟨w.heap.size, 2, none⟩) _ (by dsimp only; omega) hcode) (q := ⟨w.heap.size, 3, none⟩) _ (by dsimp only; omega) hcode) (q := ⟨w.heap.size, 4, none⟩) _ (by dsimp only; omega) hcode), (Grew.put (Grew.put (Grew.put (Grew.put (Grew.put HK.out.1 (p := ⟨w.heap.size, 0, none⟩) (.inr (Nat.le_refl _)) _) (p := ⟨w.heap.size, 1, none⟩) (.inr (Nat.le_refl _)) _) (p := ⟨w.heap.size, 2, none⟩) (.inr (Nat.le_refl _)) _) (p := ⟨w.heap.size, 3, none⟩) (.inr (Nat.le_refl _)) _) (p := ⟨w.heap.size, 4, none⟩) (.inr (Nat.le_refl _)) _)⟩
  · have hzb : (z1 == 0) = false := by simpa using hz1
    clear hz1 z10 z11
    go_wp2_with fail
    refine (pick_any r a len cap zs _ 8 _ HR1.out (by omega) (by omega) (by omega)).mono ?_
    rintro e x2 ⟨z2, z20, z21, rfl, R2, G2, s2⟩
    have K2 := K1.on G2
    have HR2 := Lib.hid R2
    clear s2 R2 G2 K1 HR1
    go_wp2_with fail
    refine (pick_any r a len cap zs _ 3 _ HR2.out (by omega) (by omega) (by omega)).mono ?_
    rintro e x3 ⟨z3, z30, z31, rfl, R3, G3, s3⟩
    have K3 := K2.on G3
    have HR3 := Lib.hid R3
    clear s3 R3 G3 K2 HR2
    go_wp2_with fail
    refine (pick_any r a len cap zs _ 4 _ HR3.out (by omega) (by omega) (by omega)).mono ?_
    rintro e x4 ⟨z4, z40, z41, rfl, R4, G4, s4⟩
    have K4 := K3.on G4
    have HR4 := Lib.hid R4
    clear s4 R4 G4 K3 HR3
    go_wp2_with fail
    refine (pick_any r a len cap zs _ 2 _ HR4.out (by omega) (by omega) (by omega)).mono ?_
    rintro e x5 ⟨z5, z50, z51, rfl, R5, G5, s5⟩
    have K5 := K4.on G5
    have HR5 := Lib.hid R5
    clear s5 R5 G5 K4 HR4
    rcases (by omega : z5 = 0 ∨ z5 = 1) with rfl | rfl
    · clear z50 z51
      have K6 := K5.new hr 44 #[.int .i64 (1 + z2), .int .i64 z3, .bool (decide (0 < z4)), .bool true, .bool false]
      have HR6 := Lib.hid (HR5.out.past (.cells #[.int .i64 (1 + z2), .int .i64 z3, .bool (decide (0 < z4)), .bool true, .bool false] 44))
      have H5 := Lib.hid (show w.heap.size < x5.heap.size from by have := (K5.2 (w.heap.size, 44, #[.int .i64 0, .int .i64 0, .bool false, .bool false, .bool false]) (by simp)).1.lt; exact this)
      clear K5 HR5
      go_wp2_with fail
      refine (pick_any r a len cap zs _ 40 _ HR6.out (by omega) (by omega) (by omega)).mono ?_
      rintro e x7 ⟨z7, z70, z71, rfl, R7, G7, s7⟩
      have K7 := K6.on G7
      have HR7 := Lib.hid R7
      clear s7 R7 G7 K6 HR6
      rcases (by omega : z7 = 0 ∨ z7 = 1 ∨ z7 = 2 ∨ 2 < z7) with rfl | rfl | rfl | hz7
      · have KP := K7.put (by intro t ht; simp at ht; subst ht; dsimp only; have h5 := H5.out; omega) 4 (.bool true)
        have RP := Lib.hid (Rd.other HR7.out (q := ⟨x5.heap.size, 4, none⟩) (.bool true) (by dsimp only; have h5 := H5.out; omega) (fun b o e h0 => by have := HC2.out b o e h0; have h5 := H5.out; dsimp only; omega))
        have c0 := KP.c (b := x5.heap.size) (T := 44) (vs := #[.int .i64 (1 + z2), .int .i64 z3, .bool (decide (0 < z4)), .bool true, .bool true]) (by simp) 0 _ rfl
        have cf0 := KP.f (b := x5.heap.size) (T := 44) (vs := #[.int .i64 (1 + z2), .int .i64 z3, .bool (decide (0 < z4)), .bool true, .bool true]) (by simp) 0
        have c1 := KP.c (b := x5.heap.size) (T := 44) (vs := #[.int .i64 (1 + z2), .int .i64 z3, .bool (decide (0 < z4)), .bool true, .bool true]) (by simp) 1 _ rfl
        have cf1 := KP.f (b := x5.heap.size) (T := 44) (vs := #[.int .i64 (1 + z2), .int .i64 z3, .bool (decide (0 < z4)), .bool true, .bool true]) (by simp) 1
        have c2 := KP.c (b := x5.heap.size) (T := 44) (vs := #[.int .i64 (1 + z2), .int .i64 z3, .bool (decide (0 < z4)), .bool true, .bool true]) (by simp) 2 _ rfl
        have cf2 := KP.f (b := x5.heap.size) (T := 44) (vs := #[.int .i64 (1 + z2), .int .i64 z3, .bool (decide (0 < z4)), .bool true, .bool true]) (by simp) 2
        have c3 := KP.c (b := x5.heap.size) (T := 44) (vs := #[.int .i64 (1 + z2), .int .i64 z3, .bool (decide (0 < z4)), .bool true, .bool true]) (by simp) 3 _ rfl
        have cf3 := KP.f (b := x5.heap.size) (T := 44) (vs := #[.int .i64 (1 + z2), .int .i64 z3, .bool (decide (0 < z4)), .bool true, .bool true]) (by simp) 3
        have c4 := KP.c (b := x5.heap.size) (T := 44) (vs := #[.int .i64 (1 + z2), .int .i64 z3, .bool (decide (0 < z4)), .bool true, .bool true]) (by simp) 4 _ rfl
        have cf4 := KP.f (b := x5.heap.size) (T := 44) (vs := #[.int .i64 (1 + z2), .int .i64 z3, .bool (decide (0 < z4)), .bool true, .bool true]) (by simp) 4
        have d0 := KP.c (b := w.heap.size) (T := 44) (vs := #[.int .i64 0, .int .i64 0, .bool false, .bool false, .bool false]) (by simp) 0 _ rfl
        have df0 := KP.f (b := w.heap.size) (T := 44) (vs := #[.int .i64 0, .int .i64 0, .bool false, .bool false, .bool false]) (by simp) 0
        have d1 := KP.c (b := w.heap.size) (T := 44) (vs := #[.int .i64 0, .int .i64 0, .bool false, .bool false, .bool false]) (by simp) 1 _ rfl
        have df1 := KP.f (b := w.heap.size) (T := 44) (vs := #[.int .i64 0, .int .i64 0, .bool false, .bool false, .bool false]) (by simp) 1
        have d2 := KP.c (b := w.heap.size) (T := 44) (vs := #[.int .i64 0, .int .i64 0, .bool false, .bool false, .bool false]) (by simp) 2 _ rfl
        have df2 := KP.f (b := w.heap.size) (T := 44) (vs := #[.int .i64 0, .int .i64 0, .bool false, .bool false, .bool false]) (by simp) 2
        have d3 := KP.c (b := w.heap.size) (T := 44) (vs := #[.int .i64 0, .int .i64 0, .bool false, .bool false, .bool false]) (by simp) 3 _ rfl
        have df3 := KP.f (b := w.heap.size) (T := 44) (vs := #[.int .i64 0, .int .i64 0, .bool false, .bool false, .bool false]) (by simp) 3
        have d4 := KP.c (b := w.heap.size) (T := 44) (vs := #[.int .i64 0, .int .i64 0, .bool false, .bool false, .bool false]) (by simp) 4 _ rfl
        have df4 := KP.f (b := w.heap.size) (T := 44) (vs := #[.int .i64 0, .int .i64 0, .bool false, .bool false, .bool false]) (by simp) 4
        clear c0 c1 c2 c3 c4 cf0 cf1 cf2 cf3 cf4 d0 d1 d2 d3 d4 df0 df1 df2 df3 df4
        have c0 := K7.c (b := x5.heap.size) (T := 44) (vs := #[.int .i64 (1 + z2), .int .i64 z3, .bool (decide (0 < z4)), .bool true, .bool false]) (by simp) 0 _ rfl
        have cf0 := K7.f (b := x5.heap.size) (T := 44) (vs := #[.int .i64 (1 + z2), .int .i64 z3, .bool (decide (0 < z4)), .bool true, .bool false]) (by simp) 0
        have c1 := K7.c (b := x5.heap.size) (T := 44) (vs := #[.int .i64 (1 + z2), .int .i64 z3, .bool (decide (0 < z4)), .bool true, .bool false]) (by simp) 1 _ rfl
        have cf1 := K7.f (b := x5.heap.size) (T := 44) (vs := #[.int .i64 (1 + z2), .int .i64 z3, .bool (decide (0 < z4)), .bool true, .bool false]) (by simp) 1
        have c2 := K7.c (b := x5.heap.size) (T := 44) (vs := #[.int .i64 (1 + z2), .int .i64 z3, .bool (decide (0 < z4)), .bool true, .bool false]) (by simp) 2 _ rfl
        have cf2 := K7.f (b := x5.heap.size) (T := 44) (vs := #[.int .i64 (1 + z2), .int .i64 z3, .bool (decide (0 < z4)), .bool true, .bool false]) (by simp) 2
        have c3 := K7.c (b := x5.heap.size) (T := 44) (vs := #[.int .i64 (1 + z2), .int .i64 z3, .bool (decide (0 < z4)), .bool true, .bool false]) (by simp) 3 _ rfl
        have cf3 := K7.f (b := x5.heap.size) (T := 44) (vs := #[.int .i64 (1 + z2), .int .i64 z3, .bool (decide (0 < z4)), .bool true, .bool false]) (by simp) 3
        have c4 := K7.c (b := x5.heap.size) (T := 44) (vs := #[.int .i64 (1 + z2), .int .i64 z3, .bool (decide (0 < z4)), .bool true, .bool false]) (by simp) 4 _ rfl
        have cf4 := K7.f (b := x5.heap.size) (T := 44) (vs := #[.int .i64 (1 + z2), .int .i64 z3, .bool (decide (0 < z4)), .bool true, .bool false]) (by simp) 4
        have d0 := K7.c (b := w.heap.size) (T := 44) (vs := #[.int .i64 0, .int .i64 0, .bool false, .bool false, .bool false]) (by simp) 0 _ rfl
        have df0 := K7.f (b := w.heap.size) (T := 44) (vs := #[.int .i64 0, .int .i64 0, .bool false, .bool false, .bool false]) (by simp) 0
        have d1 := K7.c (b := w.heap.size) (T := 44) (vs := #[.int .i64 0, .int .i64 0, .bool false, .bool false, .bool false]) (by simp) 1 _ rfl
        have df1 := K7.f (b := w.heap.size) (T := 44) (vs := #[.int .i64 0, .int .i64 0, .bool false, .bool false, .bool false]) (by simp) 1
        have d2 := K7.c (b := w.heap.size) (T := 44) (vs := #[.int .i64 0, .int .i64 0, .bool false, .bool false, .bool false]) (by simp) 2 _ rfl
        have df2 := K7.f (b := w.heap.size) (T := 44) (vs := #[.int .i64 0, .int .i64 0, .bool false, .bool false, .bool false]) (by simp) 2
        have d3 := K7.c (b := w.heap.size) (T := 44) (vs := #[.int .i64 0, .int .i64 0, .bool false, .bool false, .bool false]) (by simp) 3 _ rfl
        have df3 := K7.f (b := w.heap.size) (T := 44) (vs := #[.int .i64 0, .int .i64 0, .bool false, .bool false, .bool false]) (by simp) 3
        have d4 := K7.c (b := w.heap.size) (T := 44) (vs := #[.int .i64 0, .int .i64 0, .bool false, .bool false, .bool false]) (by simp) 4 _ rfl
        have df4 := K7.f (b := w.heap.size) (T := 44) (vs := #[.int .i64 0, .int .i64 0, .bool false, .bool false, .bool false]) (by simp) 4
        have HKe := Lib.hid KP
        clear KP K7
        have hne : x5.heap.size ≠ w.heap.size := by have h5 := H5.out; omega
        have hne2 : w.heap.size ≠ x5.heap.size := by have h5 := H5.out; omega
        go_wp2_with fail
        refine bodyPost_ret (v := .agg #[.int .i64 (1 + z2), .int .i64 z3, .bool (decide (0 < z4)), .bool true, .bool true]) (by simp [results, Tryd.results96, go_sem, *]) rfl ?_
        have hcode := HC.out
        refine ⟨_, _, _, _, _, ?_, ?_, ?_, ?_, rfl, _, ?_, (Rd.other (Rd.other (Rd.other (Rd.other (Rd.other RP.out (q := ⟨w.heap.size, 0, none⟩) _ (by dsimp only; omega) hcode) (q := ⟨w.heap.size, 1, none⟩) _ (by dsimp only; omega) hcode) (q := ⟨w.heap.size, 2, none⟩) _ (by dsimp only; omega) hcode) (q := ⟨w.heap.size, 3, none⟩) _ (by dsimp only; omega) hcode) (q := ⟨w.heap.size, 4, none⟩) _ (by dsimp only; omega) hcode), (Grew.put (Grew.put (Grew.put (Grew.put (Grew.put HKe.out.1 (p := ⟨w.heap.size, 0, none⟩) (.inr (Nat.le_refl _)) _) (p := ⟨w.heap.size, 1, none⟩) (.inr (Nat.le_refl _)) _) (p := ⟨w.heap.size, 2, none⟩) (.inr (Nat.le_refl _)) _) (p := ⟨w.heap.size, 3, none⟩) (.inr (Nat.le_refl _)) _) (p := ⟨w.heap.size, 4, none⟩) (.inr (Nat.le_refl _)) _)⟩ <;> omega
      · go_wp2_with fail
        refine (pick_any r a len cap zs _ 3 _ (HR7.out.past _) (by omega) (by omega) (by omega)).mono ?_
        rintro e y ⟨m, m0, m1, rfl, RY, GY, sY⟩
        have hy := K7.1.size
        have KY := (K7.past (.cells #[.int .i64 0, .int .i64 9, .int .i64 (-1)] 3)).on GY
        have BY := (Box.fresh x7 3 #[.int .i64 0, .int .i64 9, .int .i64 (-1)]).grew GY (by omega)
        have HRY := Lib.hid RY
        clear sY RY GY HR7 K7
        obtain ⟨u, hu, hcu⟩ : ∃ u : Int, (-1 ≤ u ∧ u ≤ 9) ∧ (u ≤ 6 ∨ 0 = 0) ∧ y.cell? ⟨x7.heap.size, m.toNat, none⟩ = some (.int .i64 u) := by
          rcases (by omega : m = 0 ∨ m = 1 ∨ m = 2) with rfl | rfl | rfl
          · exact ⟨0, by omega, by omega, BY.cell _ _ rfl⟩
          · exact ⟨9, by omega, by omega, BY.cell _ _ rfl⟩
          · exact ⟨-1, by omega, by omega, BY.cell _ _ rfl⟩
        obtain ⟨hu6, hcu⟩ := hcu
        clear BY
        have KP := KY.put (by intro t ht; simp at ht; subst ht; dsimp only; have h5 := H5.out; omega) 0 (.int .i64 u)
        have RP := Lib.hid (Rd.other HRY.out (q := ⟨x5.heap.size, 0, none⟩) (.int .i64 u) (by dsimp only; have h5 := H5.out; omega) (fun b o e h0 => by have := HC2.out b o e h0; have h5 := H5.out; dsimp only; omega))
        have c0 := KY.c (b := x5.heap.size) (T := 44) (vs := #[.int .i64 (1 + z2), .int .i64 z3, .bool (decide (0 < z4)), .bool true, .bool false]) (by simp) 0 _ rfl
        have cf0 := KY.f (b := x5.heap.size) (T := 44) (vs := #[.int .i64 (1 + z2), .int .i64 z3, .bool (decide (0 < z4)), .bool true, .bool false]) (by simp) 0
        have c1 := KY.c (b := x5.heap.size) (T := 44) (vs := #[.int .i64 (1 + z2), .int .i64 z3, .bool (decide (0 < z4)), .bool true, .bool false]) (by simp) 1 _ rfl
        have cf1 := KY.f (b := x5.heap.size) (T := 44) (vs := #[.int .i64 (1 + z2), .int .i64 z3, .bool (decide (0 < z4)), .bool true, .bool false]) (by simp) 1
        have c2 := KY.c (b := x5.heap.size) (T := 44) (vs := #[.int .i64 (1 + z2), .int .i64 z3, .bool (decide (0 < z4)), .bool true, .bool false]) (by simp) 2 _ rfl
        have cf2 := KY.f (b := x5.heap.size) (T := 44) (vs := #[.int .i64 (1 + z2), .int .i64 z3, .bool (decide (0 < z4)), .bool true, .bool false]) (by simp) 2
        have c3 := KY.c (b := x5.heap.size) (T := 44) (vs := #[.int .i64 (1 + z2), .int .i64 z3, .bool (decide (0 < z4)), .bool true, .bool false]) (by simp) 3 _ rfl
        have cf3 := KY.f (b := x5.heap.size) (T := 44) (vs := #[.int .i64 (1 + z2), .int .i64 z3, .bool (decide (0 < z4)), .bool true, .bool false]) (by simp) 3
        have c4 := KY.c (b := x5.heap.size) (T := 44) (vs := #[.int .i64 (1 + z2), .int .i64 z3, .bool (decide (0 < z4)), .bool true, .bool false]) (by simp) 4 _ rfl
        have cf4 := KY.f (b := x5.heap.size) (T := 44) (vs := #[.int .i64 (1 + z2), .int .i64 z3, .bool (decide (0 < z4)), .bool true, .bool false]) (by simp) 4
        have d0 := KY.c (b := w.heap.size) (T := 44) (vs := #[.int .i64 0, .int .i64 0, .bool false, .bool false, .bool false]) (by simp) 0 _ rfl
        have df0 := KY.f (b := w.heap.size) (T := 44) (vs := #[.int .i64 0, .int .i64 0, .bool false, .bool false, .bool false]) (by simp) 0
        have d1 := KY.c (b := w.heap.size) (T := 44) (vs := #[.int .i64 0, .int .i64 0, .bool false, .bool false, .bool false]) (by simp) 1 _ rfl
        have df1 := KY.f (b := w.heap.size) (T := 44) (vs := #[.int .i64 0, .int .i64 0, .bool false, .bool false, .bool false]) (by simp) 1
        have d2 := KY.c (b := w.heap.size) (T := 44) (vs := #[.int .i64 0, .int .i64 0, .bool false, .bool false, .bool false]) (by simp) 2 _ rfl
        have df2 := KY.f (b := w.heap.size) (T := 44) (vs := #[.int .i64 0, .int .i64 0, .bool false, .bool false, .bool false]) (by simp) 2
        have d3 := KY.c (b := w.heap.size) (T := 44) (vs := #[.int .i64 0, .int .i64 0, .bool false, .bool false, .bool false]) (by simp) 3 _ rfl
        have df3 := KY.f (b := w.heap.size) (T := 44) (vs := #[.int .i64 0, .int .i64 0, .bool false, .bool false, .bool false]) (by simp) 3
        have d4 := KY.c (b := w.heap.size) (T := 44) (vs := #[.int .i64 0, .int .i64 0, .bool false, .bool false, .bool false]) (by simp) 4 _ rfl
        have df4 := KY.f (b := w.heap.size) (T := 44) (vs := #[.int .i64 0, .int .i64 0, .bool false, .bool false, .bool false]) (by simp) 4
        have HKe := Lib.hid KP
        clear KP KY
        have hne : x5.heap.size ≠ w.heap.size := by have h5 := H5.out; omega
        have hne2 : w.heap.size ≠ x5.heap.size := by have h5 := H5.out; omega
        go_wp2_with fail
        refine bodyPost_ret (v := .agg #[.int .i64 u, .int .i64 z3, .bool (decide (0 < z4)), .bool true, .bool false]) (by simp [results, Tryd.results96, go_sem, *]) rfl ?_
        have hcode := HC.out
        refine ⟨_, _, _, _, _, ?_, ?_, ?_, ?_, rfl, _, ?_, (Rd.other (Rd.other (Rd.other (Rd.other (Rd.other RP.out (q := ⟨w.heap.size, 0, none⟩) _ (by dsimp only; omega) hcode) (q := ⟨w.heap.size, 1, none⟩) _ (by dsimp only; omega) hcode) (q := ⟨w.heap.size, 2, none⟩) _ (by dsimp only; omega) hcode) (q := ⟨w.heap.size, 3, none⟩) _ (by dsimp only; omega) hcode) (q := ⟨w.heap.size, 4, none⟩) _ (by dsimp only; omega) hcode), (Grew.put (Grew.put (Grew.put (Grew.put (Grew.put HKe.out.1 (p := ⟨w.heap.size, 0, none⟩) (.inr (Nat.le_refl _)) _) (p := ⟨w.heap.size, 1, none⟩) (.inr (Nat.le_refl _)) _) (p := ⟨w.heap.size, 2, none⟩) (.inr (Nat.le_refl _)) _) (p := ⟨w.heap.size, 3, none⟩) (.inr (Nat.le_refl _)) _) (p := ⟨w.heap.size, 4, none⟩) (.inr (Nat.le_refl _)) _)⟩ <;> omega
      · go_wp2_with fail
        refine (pick_any r a len cap zs _ 3 _ (HR7.out.past _) (by omega) (by omega) (by omega)).mono ?_
        rintro e y ⟨m, m0, m1, rfl, RY, GY, sY⟩
        have hy := K7.1.size
        have KY := (K7.past (.cells #[.int .i64 (-1), .int .i64 5, .int .i64 6] 3)).on GY
        have BY := (Box.fresh x7 3 #[.int .i64 (-1), .int .i64 5, .int .i64 6]).grew GY (by omega)
        have HRY := Lib.hid RY
        clear sY RY GY HR7 K7
        obtain ⟨u, hu, hcu⟩ : ∃ u : Int, (-1 ≤ u ∧ u ≤ 9) ∧ (u ≤ 6 ∨ 1 = 0) ∧ y.cell? ⟨x7.heap.size, m.toNat, none⟩ = some (.int .i64 u) := by
          rcases (by omega : m = 0 ∨ m = 1 ∨ m = 2) with rfl | rfl | rfl
          · exact ⟨-1, by omega, by omega, BY.cell _ _ rfl⟩
          · exact ⟨5, by omega, by omega, BY.cell _ _ rfl⟩
          · exact ⟨6, by omega, by omega, BY.cell _ _ rfl⟩
        obtain ⟨hu6, hcu⟩ := hcu
        clear BY
        have KP := KY.put (by intro t ht; simp at ht; subst ht; dsimp only; have h5 := H5.out; omega) 1 (.int .i64 u)
        have RP := Lib.hid (Rd.other HRY.out (q := ⟨x5.heap.size, 1, none⟩) (.int .i64 u) (by dsimp only; have h5 := H5.out; omega) (fun b o e h0 => by have := HC2.out b o e h0; have h5 := H5.out; dsimp only; omega))
        have c0 := KY.c (b := x5.heap.size) (T := 44) (vs := #[.int .i64 (1 + z2), .int .i64 z3, .bool (decide (0 < z4)), .bool true, .bool false]) (by simp) 0 _ rfl
        have cf0 := KY.f (b := x5.heap.size) (T := 44) (vs := #[.int .i64 (1 + z2), .int .i64 z3, .bool (decide (0 < z4)), .bool true, .bool false]) (by simp) 0
        have c1 := KY.c (b := x5.heap.size) (T := 44) (vs := #[.int .i64 (1 + z2), .int .i64 z3, .bool (decide (0 < z4)), .bool true, .bool false]) (by simp) 1 _ rfl
        have cf1 := KY.f (b := x5.heap.size) (T := 44) (vs := #[.int .i64 (1 + z2), .int .i64 z3, .bool (decide (0 < z4)), .bool true, .bool false]) (by simp) 1
        have c2 := KY.c (b := x5.heap.size) (T := 44) (vs := #[.int .i64 (1 + z2), .int .i64 z3, .bool (decide (0 < z4)), .bool true, .bool false]) (by simp) 2 _ rfl
        have cf2 := KY.f (b := x5.heap.size) (T := 44) (vs := #[.int .i64 (1 + z2), .int .i64 z3, .bool (decide (0 < z4)), .bool true, .bool false]) (by simp) 2
        have c3 := KY.c (b := x5.heap.size) (T := 44) (vs := #[.int .i64 (1 + z2), .int .i64 z3, .bool (decide (0 < z4)), .bool true, .bool false]) (by simp) 3 _ rfl
        have cf3 := KY.f (b := x5.heap.size) (T := 44) (vs := #[.int .i64 (1 + z2), .int .i64 z3, .bool (decide (0 < z4)), .bool true, .bool false]) (by simp) 3
        have c4 := KY.c (b := x5.heap.size) (T := 44) (vs := #[.int .i64 (1 + z2), .int .i64 z3, .bool (decide (0 < z4)), .bool true, .bool false]) (by simp) 4 _ rfl
        have cf4 := KY.f (b := x5.heap.size) (T := 44) (vs := #[.int .i64 (1 + z2), .int .i64 z3, .bool (decide (0 < z4)), .bool true, .bool false]) (by simp) 4
        have d0 := KY.c (b := w.heap.size) (T := 44) (vs := #[.int .i64 0, .int .i64 0, .bool false, .bool false, .bool false]) (by simp) 0 _ rfl
        have df0 := KY.f (b := w.heap.size) (T := 44) (vs := #[.int .i64 0, .int .i64 0, .bool false, .bool false, .bool false]) (by simp) 0
        have d1 := KY.c (b := w.heap.size) (T := 44) (vs := #[.int .i64 0, .int .i64 0, .bool false, .bool false, .bool false]) (by simp) 1 _ rfl
        have df1 := KY.f (b := w.heap.size) (T := 44) (vs := #[.int .i64 0, .int .i64 0, .bool false, .bool false, .bool false]) (by simp) 1
        have d2 := KY.c (b := w.heap.size) (T := 44) (vs := #[.int .i64 0, .int .i64 0, .bool false, .bool false, .bool false]) (by simp) 2 _ rfl
        have df2 := KY.f (b := w.heap.size) (T := 44) (vs := #[.int .i64 0, .int .i64 0, .bool false, .bool false, .bool false]) (by simp) 2
        have d3 := KY.c (b := w.heap.size) (T := 44) (vs := #[.int .i64 0, .int .i64 0, .bool false, .bool false, .bool false]) (by simp) 3 _ rfl
        have df3 := KY.f (b := w.heap.size) (T := 44) (vs := #[.int .i64 0, .int .i64 0, .bool false, .bool false, .bool false]) (by simp) 3
        have d4 := KY.c (b := w.heap.size) (T := 44) (vs := #[.int .i64 0, .int .i64 0, .bool false, .bool false, .bool false]) (by simp) 4 _ rfl
        have df4 := KY.f (b := w.heap.size) (T := 44) (vs := #[.int .i64 0, .int .i64 0, .bool false, .bool false, .bool false]) (by simp) 4
        have HKe := Lib.hid KP
        clear KP KY
        have hne : x5.heap.size ≠ w.heap.size := by have h5 := H5.out; omega
        have hne2 : w.heap.size ≠ x5.heap.size := by have h5 := H5.out; omega
        go_wp2_with fail
        refine bodyPost_ret (v := .agg #[.int .i64 (1 + z2), .int .i64 u, .bool (decide (0 < z4)), .bool true, .bool false]) (by simp [results, Tryd.results96, go_sem, *]) rfl ?_
        have hcode := HC.out
        refine ⟨_, _, _, _, _, ?_, ?_, ?_, ?_, rfl, _, ?_, (Rd.other (Rd.other (Rd.other (Rd.other (Rd.other RP.out (q := ⟨w.heap.size, 0, none⟩) _ (by dsimp only; omega) hcode) (q := ⟨w.heap.size, 1, none⟩) _ (by dsimp only; omega) hcode) (q := ⟨w.heap.size, 2, none⟩) _ (by dsimp only; omega) hcode) (q := ⟨w.heap.size, 3, none⟩) _ (by dsimp only; omega) hcode) (q := ⟨w.heap.size, 4, none⟩) _ (by dsimp only; omega) hcode), (Grew.put (Grew.put (Grew.put (Grew.put (Grew.put HKe.out.1 (p := ⟨w.heap.size, 0, none⟩) (.inr (Nat.le_refl _)) _) (p := ⟨w.heap.size, 1, none⟩) (.inr (Nat.le_refl _)) _) (p := ⟨w.heap.size, 2, none⟩) (.inr (Nat.le_refl _)) _) (p := ⟨w.heap.size, 3, none⟩) (.inr (Nat.le_refl _)) _) (p := ⟨w.heap.size, 4, none⟩) (.inr (Nat.le_refl _)) _)⟩ <;> omega
      · have b0 : (z7 == 0) = false := by simp; omega
        have b1 : (z7 == 1) = false := by simp; omega
        have b2 : (z7 == 2) = false := by simp; omega
        have c0 := K7.c (b := x5.heap.size) (T := 44) (vs := #[.int .i64 (1 + z2), .int .i64 z3, .bool (decide (0 < z4)), .bool true, .bool false]) (by simp) 0 _ rfl
        have c1 := K7.c (b := x5.heap.size) (T := 44) (vs := #[.int .i64 (1 + z2), .int .i64 z3, .bool (decide (0 < z4)), .bool true, .bool false]) (by simp) 1 _ rfl
        have c2 := K7.c (b := x5.heap.size) (T := 44) (vs := #[.int .i64 (1 + z2), .int .i64 z3, .bool (decide (0 < z4)), .bool true, .bool false]) (by simp) 2 _ rfl
        have c3 := K7.c (b := x5.heap.size) (T := 44) (vs := #[.int .i64 (1 + z2), .int .i64 z3, .bool (decide (0 < z4)), .bool true, .bool false]) (by simp) 3 _ rfl
        have c4 := K7.c (b := x5.heap.size) (T := 44) (vs := #[.int .i64 (1 + z2), .int .i64 z3, .bool (decide (0 < z4)), .bool true, .bool false]) (by simp) 4 _ rfl
        have d0 := K7.c (b := w.heap.size) (T := 44) (vs := #[.int .i64 0, .int .i64 0, .bool false, .bool false, .bool false]) (by simp) 0 _ rfl
        have df0 := K7.f (b := w.heap.size) (T := 44) (vs := #[.int .i64 0, .int .i64 0, .bool false, .bool false, .bool false]) (by simp) 0
        have d1 := K7.c (b := w.heap.size) (T := 44) (vs := #[.int .i64 0, .int .i64 0, .bool false, .bool false, .bool false]) (by simp) 1 _ rfl
        have df1 := K7.f (b := w.heap.size) (T := 44) (vs := #[.int .i64 0, .int .i64 0, .bool false, .bool false, .bool false]) (by simp) 1
        have d2 := K7.c (b := w.heap.size) (T := 44) (vs := #[.int .i64 0, .int .i64 0, .bool false, .bool false, .bool false]) (by simp) 2 _ rfl
        have df2 := K7.f (b := w.heap.size) (T := 44) (vs := #[.int .i64 0, .int .i64 0, .bool false, .bool false, .bool false]) (by simp) 2
        have d3 := K7.c (b := w.heap.size) (T := 44) (vs := #[.int .i64 0, .int .i64 0, .bool false, .bool false, .bool false]) (by simp) 3 _ rfl
        have df3 := K7.f (b := w.heap.size) (T := 44) (vs := #[.int .i64 0, .int .i64 0, .bool false, .bool false, .bool false]) (by simp) 3
        have d4 := K7.c (b := w.heap.size) (T := 44) (vs := #[.int .i64 0, .int .i64 0, .bool false, .bool false, .bool false]) (by simp) 4 _ rfl
        have df4 := K7.f (b := w.heap.size) (T := 44) (vs := #[.int .i64 0, .int .i64 0, .bool false, .bool false, .bool false]) (by simp) 4
        have HKe := Lib.hid K7
        clear K7
        have hne : x5.heap.size ≠ w.heap.size := by have := HKe.out.2 (x5.heap.size, 44, #[.int .i64 (1 + z2), .int .i64 z3, .bool (decide (0 < z4)), .bool true, .bool false]) (by simp); have h5 := H5.out; omega
        go_wp2_with fail
        refine bodyPost_ret (v := .agg #[.int .i64 (1 + z2), .int .i64 z3, .bool (decide (0 < z4)), .bool true, .bool false]) (by simp [results, Tryd.results96, go_sem, *]) rfl ?_
        have hcode := HC.out
        refine ⟨_, _, _, _, _, ?_, ?_, ?_, ?_, rfl, _, ?_, (Rd.other (Rd.other (Rd.other (Rd.other (Rd.other HR7.out (q := ⟨w.heap.size, 0, none⟩) _ (by dsimp only; omega) hcode) (q := ⟨w.heap.size, 1, none⟩) _ (by dsimp only; omega) hcode) (q := ⟨w.heap.size, 2, none⟩) _ (by dsimp only; omega) hcode) (q := ⟨w.heap.size, 3, none⟩) _ (by dsimp only; omega) hcode) (q := ⟨w.heap.size, 4, none⟩) _ (by dsimp only; omega) hcode), (Grew.put (Grew.put (Grew.put (Grew.put (Grew.put HKe.out.1 (p := ⟨w.heap.size, 0, none⟩) (.inr (Nat.le_refl _)) _) (p := ⟨w.heap.size, 1, none⟩) (.inr (Nat.le_refl _)) _) (p := ⟨w.heap.size, 2, none⟩) (.inr (Nat.le_refl _)) _) (p := ⟨w.heap.size, 3, none⟩) (.inr (Nat.le_refl _)) _) (p := ⟨w.heap.size, 4, none⟩) (.inr (Nat.le_refl _)) _)⟩ <;> omega
    · clear z50 z51
      have K6 := K5.new hr 44 #[.int .i64 (1 + z2), .int .i64 z3, .bool (decide (0 < z4)), .bool false, .bool false]
      have HR6 := Lib.hid (HR5.out.past (.cells #[.int .i64 (1 + z2), .int .i64 z3, .bool (decide (0 < z4)), .bool false, .bool false] 44))
      have H5 := Lib.hid (show w.heap.size < x5.heap.size from by have := (K5.2 (w.heap.size, 44, #[.int .i64 0, .int .i64 0, .bool false, .bool false, .bool false]) (by simp)).1.lt; exact this)
      clear K5 HR5
      go_wp2_with fail
      refine (pick_any r a len cap zs _ 2 _ HR6.out (by omega) (by omega) (by omega)).mono ?_
      rintro e x6 ⟨z6, z60, z61, rfl, R6, G6, s6⟩
      have K7 := K6.on G6
      have HR7 := Lib.hid R6
      clear s6 R6 G6 K6 HR6
      have c0 := K7.c (b := x5.heap.size) (T := 44) (vs := #[.int .i64 (1 + z2), .int .i64 z3, .bool (decide (0 < z4)), .bool false, .bool false]) (by simp) 0 _ rfl
      have cf0 := K7.f (b := x5.heap.size) (T := 44) (vs := #[.int .i64 (1 + z2), .int .i64 z3, .bool (decide (0 < z4)), .bool false, .bool false]) (by simp) 0
      have c1 := K7.c (b := x5.heap.size) (T := 44) (vs := #[.int .i64 (1 + z2), .int .i64 z3, .bool (decide (0 < z4)), .bool false, .bool false]) (by simp) 1 _ rfl
      have cf1 := K7.f (b := x5.heap.size) (T := 44) (vs := #[.int .i64 (1 + z2), .int .i64 z3, .bool (decide (0 < z4)), .bool false, .bool false]) (by simp) 1
      have c2 := K7.c (b := x5.heap.size) (T := 44) (vs := #[.int .i64 (1 + z2), .int .i64 z3, .bool (decide (0 < z4)), .bool false, .bool false]) (by simp) 2 _ rfl
      have cf2 := K7.f (b := x5.heap.size) (T := 44) (vs := #[.int .i64 (1 + z2), .int .i64 z3, .bool (decide (0 < z4)), .bool false, .bool false]) (by simp) 2
      have c3 := K7.c (b := x5.heap.size) (T := 44) (vs := #[.int .i64 (1 + z2), .int .i64 z3, .bool (decide (0 < z4)), .bool false, .bool false]) (by simp) 3 _ rfl
      have cf3 := K7.f (b := x5.heap.size) (T := 44) (vs := #[.int .i64 (1 + z2), .int .i64 z3, .bool (decide (0 < z4)), .bool false, .bool false]) (by simp) 3
      have c4 := K7.c (b := x5.heap.size) (T := 44) (vs := #[.int .i64 (1 + z2), .int .i64 z3, .bool (decide (0 < z4)), .bool false, .bool false]) (by simp) 4 _ rfl
      have cf4 := K7.f (b := x5.heap.size) (T := 44) (vs := #[.int .i64 (1 + z2), .int .i64 z3, .bool (decide (0 < z4)), .bool false, .bool false]) (by simp) 4
      have d0 := K7.c (b := w.heap.size) (T := 44) (vs := #[.int .i64 0, .int .i64 0, .bool false, .bool false, .bool false]) (by simp) 0 _ rfl
      have df0 := K7.f (b := w.heap.size) (T := 44) (vs := #[.int .i64 0, .int .i64 0, .bool false, .bool false, .bool false]) (by simp) 0
      have d1 := K7.c (b := w.heap.size) (T := 44) (vs := #[.int .i64 0, .int .i64 0, .bool false, .bool false, .bool false]) (by simp) 1 _ rfl
      have df1 := K7.f (b := w.heap.size) (T := 44) (vs := #[.int .i64 0, .int .i64 0, .bool false, .bool false, .bool false]) (by simp) 1
      have d2 := K7.c (b := w.heap.size) (T := 44) (vs := #[.int .i64 0, .int .i64 0, .bool false, .bool false, .bool false]) (by simp) 2 _ rfl
      have df2 := K7.f (b := w.heap.size) (T := 44) (vs := #[.int .i64 0, .int .i64 0, .bool false, .bool false, .bool false]) (by simp) 2
      have d3 := K7.c (b := w.heap.size) (T := 44) (vs := #[.int .i64 0, .int .i64 0, .bool false, .bool false, .bool false]) (by simp) 3 _ rfl
      have df3 := K7.f (b := w.heap.size) (T := 44) (vs := #[.int .i64 0, .int .i64 0, .bool false, .bool false, .bool false]) (by simp) 3
      have d4 := K7.c (b := w.heap.size) (T := 44) (vs := #[.int .i64 0, .int .i64 0, .bool false, .bool false, .bool false]) (by simp) 4 _ rfl
      have df4 := K7.f (b := w.heap.size) (T := 44) (vs := #[.int .i64 0, .int .i64 0, .bool false, .bool false, .bool false]) (by simp) 4
      have K8 := K7.put (by intro t ht; simp at ht; subst ht; dsimp only; have h5 := H5.out; omega) 4 (.bool (z6 == 0))
      have HR8 := Lib.hid (Rd.other HR7.out (q := ⟨x5.heap.size, 4, none⟩) (.bool (z6 == 0)) (by dsimp only; have h5 := H5.out; omega) (fun b o e h0 => by have := HC2.out b o e h0; have h5 := H5.out; dsimp only; omega))
      have HK8 := Lib.hid K8
      clear K7 K8 HR7
      go_wp2_with fail
      have K9 := HK8.out
      clear c0 c1 c2 c3 c4 cf0 cf1 cf2 cf3 cf4 d0 d1 d2 d3 d4 df0 df1 df2 df3 df4 HK8
      refine (pick_any r a len cap zs _ 40 _ HR8.out (by omega) (by omega) (by omega)).mono ?_
      rintro e x11 ⟨z11, z110, z111, rfl, R11, G11, s11⟩
      have K11 := K9.on G11
      have HR11 := Lib.hid R11
      clear s11 R11 G11 K9 HR8
      rcases (by omega : z11 = 0 ∨ z11 = 1 ∨ z11 = 2 ∨ 2 < z11) with rfl | rfl | rfl | hz11
      · have KP := K11.put (by intro t ht; simp at ht; subst ht; dsimp only; have h5 := H5.out; omega) 4 (.bool true)
        have RP := Lib.hid (Rd.other HR11.out (q := ⟨x5.heap.size, 4, none⟩) (.bool true) (by dsimp only; have h5 := H5.out; omega) (fun b o e h0 => by have := HC2.out b o e h0; have h5 := H5.out; dsimp only; omega))
        have c0 := KP.c (b := x5.heap.size) (T := 44) (vs := #[.int .i64 (1 + z2), .int .i64 z3, .bool (decide (0 < z4)), .bool false, .bool true]) (by simp) 0 _ rfl
        have cf0 := KP.f (b := x5.heap.size) (T := 44) (vs := #[.int .i64 (1 + z2), .int .i64 z3, .bool (decide (0 < z4)), .bool false, .bool true]) (by simp) 0
        have c1 := KP.c (b := x5.heap.size) (T := 44) (vs := #[.int .i64 (1 + z2), .int .i64 z3, .bool (decide (0 < z4)), .bool false, .bool true]) (by simp) 1 _ rfl
        have cf1 := KP.f (b := x5.heap.size) (T := 44) (vs := #[.int .i64 (1 + z2), .int .i64 z3, .bool (decide (0 < z4)), .bool false, .bool true]) (by simp) 1
        have c2 := KP.c (b := x5.heap.size) (T := 44) (vs := #[.int .i64 (1 + z2), .int .i64 z3, .bool (decide (0 < z4)), .bool false, .bool true]) (by simp) 2 _ rfl
        have cf2 := KP.f (b := x5.heap.size) (T := 44) (vs := #[.int .i64 (1 + z2), .int .i64 z3, .bool (decide (0 < z4)), .bool false, .bool true]) (by simp) 2
        have c3 := KP.c (b := x5.heap.size) (T := 44) (vs := #[.int .i64 (1 + z2), .int .i64 z3, .bool (decide (0 < z4)), .bool false, .bool true]) (by simp) 3 _ rfl
        have cf3 := KP.f (b := x5.heap.size) (T := 44) (vs := #[.int .i64 (1 + z2), .int .i64 z3, .bool (decide (0 < z4)), .bool false, .bool true]) (by simp) 3
        have c4 := KP.c (b := x5.heap.size) (T := 44) (vs := #[.int .i64 (1 + z2), .int .i64 z3, .bool (decide (0 < z4)), .bool false, .bool true]) (by simp) 4 _ rfl
        have cf4 := KP.f (b := x5.heap.size) (T := 44) (vs := #[.int .i64 (1 + z2), .int .i64 z3, .bool (decide (0 < z4)), .bool false, .bool true]) (by simp) 4
        have d0 := KP.c (b := w.heap.size) (T := 44) (vs := #[.int .i64 0, .int .i64 0, .bool false, .bool false, .bool false]) (by simp) 0 _ rfl
        have df0 := KP.f (b := w.heap.size) (T := 44) (vs := #[.int .i64 0, .int .i64 0, .bool false, .bool false, .bool false]) (by simp) 0
        have d1 := KP.c (b := w.heap.size) (T := 44) (vs := #[.int .i64 0, .int .i64 0, .bool false, .bool false, .bool false]) (by simp) 1 _ rfl
        have df1 := KP.f (b := w.heap.size) (T := 44) (vs := #[.int .i64 0, .int .i64 0, .bool false, .bool false, .bool false]) (by simp) 1
        have d2 := KP.c (b := w.heap.size) (T := 44) (vs := #[.int .i64 0, .int .i64 0, .bool false, .bool false, .bool false]) (by simp) 2 _ rfl
        have df2 := KP.f (b := w.heap.size) (T := 44) (vs := #[.int .i64 0, .int .i64 0, .bool false, .bool false, .bool false]) (by simp) 2
        have d3 := KP.c (b := w.heap.size) (T := 44) (vs := #[.int .i64 0, .int .i64 0, .bool false, .bool false, .bool false]) (by simp) 3 _ rfl
        have df3 := KP.f (b := w.heap.size) (T := 44) (vs := #[.int .i64 0, .int .i64 0, .bool false, .bool false, .bool false]) (by simp) 3
        have d4 := KP.c (b := w.heap.size) (T := 44) (vs := #[.int .i64 0, .int .i64 0, .bool false, .bool false, .bool false]) (by simp) 4 _ rfl
        have df4 := KP.f (b := w.heap.size) (T := 44) (vs := #[.int .i64 0, .int .i64 0, .bool false, .bool false, .bool false]) (by simp) 4
        clear c0 c1 c2 c3 c4 cf0 cf1 cf2 cf3 cf4 d0 d1 d2 d3 d4 df0 df1 df2 df3 df4
        have c0 := K11.c (b := x5.heap.size) (T := 44) (vs := #[.int .i64 (1 + z2), .int .i64 z3, .bool (decide (0 < z4)), .bool false, .bool (z6 == 0)]) (by simp) 0 _ rfl
        have cf0 := K11.f (b := x5.heap.size) (T := 44) (vs := #[.int .i64 (1 + z2), .int .i64 z3, .bool (decide (0 < z4)), .bool false, .bool (z6 == 0)]) (by simp) 0
        have c1 := K11.c (b := x5.heap.size) (T := 44) (vs := #[.int .i64 (1 + z2), .int .i64 z3, .bool (decide (0 < z4)), .bool false, .bool (z6 == 0)]) (by simp) 1 _ rfl
        have cf1 := K11.f (b := x5.heap.size) (T := 44) (vs := #[.int .i64 (1 + z2), .int .i64 z3, .bool (decide (0 < z4)), .bool false, .bool (z6 == 0)]) (by simp) 1
        have c2 := K11.c (b := x5.heap.size) (T := 44) (vs := #[.int .i64 (1 + z2), .int .i64 z3, .bool (decide (0 < z4)), .bool false, .bool (z6 == 0)]) (by simp) 2 _ rfl
        have cf2 := K11.f (b := x5.heap.size) (T := 44) (vs := #[.int .i64 (1 + z2), .int .i64 z3, .bool (decide (0 < z4)), .bool false, .bool (z6 == 0)]) (by simp) 2
        have c3 := K11.c (b := x5.heap.size) (T := 44) (vs := #[.int .i64 (1 + z2), .int .i64 z3, .bool (decide (0 < z4)), .bool false, .bool (z6 == 0)]) (by simp) 3 _ rfl
        have cf3 := K11.f (b := x5.heap.size) (T := 44) (vs := #[.int .i64 (1 + z2), .int .i64 z3, .bool (decide (0 < z4)), .bool false, .bool (z6 == 0)]) (by simp) 3
        have c4 := K11.c (b := x5.heap.size) (T := 44) (vs := #[.int .i64 (1 + z2), .int .i64 z3, .bool (decide (0 < z4)), .bool false, .bool (z6 == 0)]) (by simp) 4 _ rfl
        have cf4 := K11.f (b := x5.heap.size) (T := 44) (vs := #[.int .i64 (1 + z2), .int .i64 z3, .bool (decide (0 < z4)), .bool false, .bool (z6 == 0)]) (by simp) 4
        have d0 := K11.c (b := w.heap.size) (T := 44) (vs := #[.int .i64 0, .int .i64 0, .bool false, .bool false, .bool false]) (by simp) 0 _ rfl
        have df0 := K11.f (b := w.heap.size) (T := 44) (vs := #[.int .i64 0, .int .i64 0, .bool false, .bool false, .bool false]) (by simp) 0
        have d1 := K11.c (b := w.heap.size) (T := 44) (vs := #[.int .i64 0, .int .i64 0, .bool false, .bool false, .bool false]) (by simp) 1 _ rfl
        have df1 := K11.f (b := w.heap.size) (T := 44) (vs := #[.int .i64 0, .int .i64 0, .bool false, .bool false, .bool false]) (by simp) 1
        have d2 := K11.c (b := w.heap.size) (T := 44) (vs := #[.int .i64 0, .int .i64 0, .bool false, .bool false, .bool false]) (by simp) 2 _ rfl
        have df2 := K11.f (b := w.heap.size) (T := 44) (vs := #[.int .i64 0, .int .i64 0, .bool false, .bool false, .bool false]) (by simp) 2
        have d3 := K11.c (b := w.heap.size) (T := 44) (vs := #[.int .i64 0, .int .i64 0, .bool false, .bool false, .bool false]) (by simp) 3 _ rfl
        have df3 := K11.f (b := w.heap.size) (T := 44) (vs := #[.int .i64 0, .int .i64 0, .bool false, .bool false, .bool false]) (by simp) 3
        have d4 := K11.c (b := w.heap.size) (T := 44) (vs := #[.int .i64 0, .int .i64 0, .bool false, .bool false, .bool false]) (by simp) 4 _ rfl
        have df4 := K11.f (b := w.heap.size) (T := 44) (vs := #[.int .i64 0, .int .i64 0, .bool false, .bool false, .bool false]) (by simp) 4
        have HKe := Lib.hid KP
        clear KP K11
        have hne : x5.heap.size ≠ w.heap.size := by have h5 := H5.out; omega
        have hne2 : w.heap.size ≠ x5.heap.size := by have h5 := H5.out; omega
        go_wp2_with fail
        refine bodyPost_ret (v := .agg #[.int .i64 (1 + z2), .int .i64 z3, .bool (decide (0 < z4)), .bool false, .bool true]) (by simp [results, Tryd.results96, go_sem, *]) rfl ?_
        have hcode := HC.out
        refine ⟨_, _, _, _, _, ?_, ?_, ?_, ?_, rfl, _, ?_, (Rd.other (Rd.other (Rd.other (Rd.other (Rd.other RP.out (q := ⟨w.heap.size, 0, none⟩) _ (by dsimp only; omega) hcode) (q := ⟨w.heap.size, 1, none⟩) _ (by dsimp only; omega) hcode) (q := ⟨w.heap.size, 2, none⟩) _ (by dsimp only; omega) hcode) (q := ⟨w.heap.size, 3, none⟩) _ (by dsimp only; omega) hcode) (q := ⟨w.heap.size, 4, none⟩) _ (by dsimp only; omega) hcode), (Grew.put (Grew.put (Grew.put (Grew.put (Grew.put HKe.out.1 (p := ⟨w.heap.size, 0, none⟩) (.inr (Nat.le_refl _)) _) (p := ⟨w.heap.size, 1, none⟩) (.inr (Nat.le_refl _)) _) (p := ⟨w.heap.size, 2, none⟩) (.inr (Nat.le_refl _)) _) (p := ⟨w.heap.size, 3, none⟩) (.inr (Nat.le_refl _)) _) (p := ⟨w.heap.size, 4, none⟩) (.inr (Nat.le_refl _)) _)⟩ <;> omega
      · go_wp2_with fail
        refine (pick_any r a len cap zs _ 3 _ (HR11.out.past _) (by omega) (by omega) (by omega)).mono ?_
        rintro e y ⟨m, m0, m1, rfl, RY, GY, sY⟩
        have hy := K11.1.size
        have KY := (K11.past (.cells #[.int .i64 0, .int .i64 9, .int .i64 (-1)] 3)).on GY
        have BY := (Box.fresh x11 3 #[.int .i64 0, .int .i64 9, .int .i64 (-1)]).grew GY (by omega)
        have HRY := Lib.hid RY
        clear sY RY GY HR11 K11
        obtain ⟨u, hu, hcu⟩ : ∃ u : Int, (-1 ≤ u ∧ u ≤ 9) ∧ (u ≤ 6 ∨ 0 = 0) ∧ y.cell? ⟨x11.heap.size, m.toNat, none⟩ = some (.int .i64 u) := by
          rcases (by omega : m = 0 ∨ m = 1 ∨ m = 2) with rfl | rfl | rfl
          · exact ⟨0, by omega, by omega, BY.cell _ _ rfl⟩
          · exact ⟨9, by omega, by omega, BY.cell _ _ rfl⟩
          · exact ⟨-1, by omega, by omega, BY.cell _ _ rfl⟩
        obtain ⟨hu6, hcu⟩ := hcu
        clear BY
        have KP := KY.put (by intro t ht; simp at ht; subst ht; dsimp only; have h5 := H5.out; omega) 0 (.int .i64 u)
        have RP := Lib.hid (Rd.other HRY.out (q := ⟨x5.heap.size, 0, none⟩) (.int .i64 u) (by dsimp only; have h5 := H5.out; omega) (fun b o e h0 => by have := HC2.out b o e h0; have h5 := H5.out; dsimp only; omega))
        have c0 := KY.c (b := x5.heap.size) (T := 44) (vs := #[.int .i64 (1 + z2), .int .i64 z3, .bool (decide (0 < z4)), .bool false, .bool (z6 == 0)]) (by simp) 0 _ rfl
        have cf0 := KY.f (b := x5.heap.size) (T := 44) (vs := #[.int .i64 (1 + z2), .int .i64 z3, .bool (decide (0 < z4)), .bool false, .bool (z6 == 0)]) (by simp) 0
        have c1 := KY.c (b := x5.heap.size) (T := 44) (vs := #[.int .i64 (1 + z2), .int .i64 z3, .bool (decide (0 < z4)), .bool false, .bool (z6 == 0)]) (by simp) 1 _ rfl
        have cf1 := KY.f (b := x5.heap.size) (T := 44) (vs := #[.int .i64 (1 + z2), .int .i64 z3, .bool (decide (0 < z4)), .bool false, .bool (z6 == 0)]) (by simp) 1
        have c2 := KY.c (b := x5.heap.size) (T := 44) (vs := #[.int .i64 (1 + z2), .int .i64 z3, .bool (decide (0 < z4)), .bool false, .bool (z6 == 0)]) (by simp) 2 _ rfl
        have cf2 := KY.f (b := x5.heap.size) (T := 44) (vs := #[.int .i64 (1 + z2), .int .i64 z3, .bool (decide (0 < z4)), .bool false, .bool (z6 == 0)]) (by simp) 2
        have c3 := KY.c (b := x5.heap.size) (T := 44) (vs := #[.int .i64 (1 + z2), .int .i64 z3, .bool (decide (0 < z4)), .bool false, .bool (z6 == 0)]) (by simp) 3 _ rfl
        have cf3 := KY.f (b := x5.heap.size) (T := 44) (vs := #[.int .i64 (1 + z2), .int .i64 z3, .bool (decide (0 < z4)), .bool false, .bool (z6 == 0)]) (by simp) 3
        have c4 := KY.c (b := x5.heap.size) (T := 44) (vs := #[.int .i64 (1 + z2), .int .i64 z3, .bool (decide (0 < z4)), .bool false, .bool (z6 == 0)]) (by simp) 4 _ rfl
        have cf4 := KY.f (b := x5.heap.size) (T := 44) (vs := #[.int .i64 (1 + z2), .int .i64 z3, .bool (decide (0 < z4)), .bool false, .bool (z6 == 0)]) (by simp) 4
        have d0 := KY.c (b := w.heap.size) (T := 44) (vs := #[.int .i64 0, .int .i64 0, .bool false, .bool false, .bool false]) (by simp) 0 _ rfl
        have df0 := KY.f (b := w.heap.size) (T := 44) (vs := #[.int .i64 0, .int .i64 0, .bool false, .bool false, .bool false]) (by simp) 0
        have d1 := KY.c (b := w.heap.size) (T := 44) (vs := #[.int .i64 0, .int .i64 0, .bool false, .bool false, .bool false]) (by simp) 1 _ rfl
        have df1 := KY.f (b := w.heap.size) (T := 44) (vs := #[.int .i64 0, .int .i64 0, .bool false, .bool false, .bool false]) (by simp) 1
        have d2 := KY.c (b := w.heap.size) (T := 44) (vs := #[.int .i64 0, .int .i64 0, .bool false, .bool false, .bool false]) (by simp) 2 _ rfl
        have df2 := KY.f (b := w.heap.size) (T := 44) (vs := #[.int .i64 0, .int .i64 0, .bool false, .bool false, .bool false]) (by simp) 2
        have d3 := KY.c (b := w.heap.size) (T := 44) (vs := #[.int .i64 0, .int .i64 0, .bool false, .bool false, .bool false]) (by simp) 3 _ rfl
        have df3 := KY.f (b := w.heap.size) (T := 44) (vs := #[.int .i64 0, .int .i64 0, .bool false, .bool false, .bool false]) (by simp) 3
        have d4 := KY.c (b := w.heap.size) (T := 44) (vs := #[.int .i64 0, .int .i64 0, .bool false, .bool false, .bool false]) (by simp) 4 _ rfl
        have df4 := KY.f (b := w.heap.size) (T := 44) (vs := #[.int .i64 0, .int .i64 0, .bool false, .bool false, .bool false]) (by simp) 4
        have HKe := Lib.hid KP
        clear KP KY
        have hne : x5.heap.size ≠ w.heap.size := by have h5 := H5.out; omega
        have hne2 : w.heap.size ≠ x5.heap.size := by have h5 := H5.out; omega
        go_wp2_with fail
        refine bodyPost_ret (v := .agg #[.int .i64 u, .int .i64 z3, .bool (decide (0 < z4)), .bool false, .bool (z6 == 0)]) (by simp [results, Tryd.results96, go_sem, *]) rfl ?_
        have hcode := HC.out
        refine ⟨_, _, _, _, _, ?_, ?_, ?_, ?_, rfl, _, ?_, (Rd.other (Rd.other (Rd.other (Rd.other (Rd.other RP.out (q := ⟨w.heap.size, 0, none⟩) _ (by dsimp only; omega) hcode) (q := ⟨w.heap.size, 1, none⟩) _ (by dsimp only; omega) hcode) (q := ⟨w.heap.size, 2, none⟩) _ (by dsimp only; omega) hcode) (q := ⟨w.heap.size, 3, none⟩) _ (by dsimp only; omega) hcode) (q := ⟨w.heap.size, 4, none⟩) _ (by dsimp only; omega) hcode), (Grew.put (Grew.put (Grew.put (Grew.put (Grew.put HKe.out.1 (p := ⟨w.heap.size, 0, none⟩) (.inr (Nat.le_refl _)) _) (p := ⟨w.heap.size, 1, none⟩) (.inr (Nat.le_refl _)) _) (p := ⟨w.heap.size, 2, none⟩) (.inr (Nat.le_refl _)) _) (p := ⟨w.heap.size, 3, none⟩) (.inr (Nat.le_refl _)) _) (p := ⟨w.heap.size, 4, none⟩) (.inr (Nat.le_refl _)) _)⟩ <;> omega
      · go_wp2_with fail
        refine (pick_any r a len cap zs _ 3 _ (HR11.out.past _) (by omega) (by omega) (by omega)).mono ?_
        rintro e y ⟨m, m0, m1, rfl, RY, GY, sY⟩
        have hy := K11.1.size
        have KY := (K11.past (.cells #[.int .i64 (-1), .int .i64 5, .int .i64 6] 3)).on GY
        have BY := (Box.fresh x11 3 #[.int .i64 (-1), .int .i64 5, .int .i64 6]).grew GY (by omega)
        have HRY := Lib.hid RY
        clear sY RY GY HR11 K11
        obtain ⟨u, hu, hcu⟩ : ∃ u : Int, (-1 ≤ u ∧ u ≤ 9) ∧ (u ≤ 6 ∨ 1 = 0) ∧ y.cell? ⟨x11.heap.size, m.toNat, none⟩ = some (.int .i64 u) := by
          rcases (by omega : m = 0 ∨ m = 1 ∨ m = 2) with rfl | rfl | rfl
          · exact ⟨-1, by omega, by omega, BY.cell _ _ rfl⟩
          · exact ⟨5, by omega, by omega, BY.cell _ _ rfl⟩
          · exact ⟨6, by omega, by omega, BY.cell _ _ rfl⟩
        obtain ⟨hu6, hcu⟩ := hcu
        clear BY
        have KP := KY.put (by intro t ht; simp at ht; subst ht; dsimp only; have h5 := H5.out; omega) 1 (.int .i64 u)
        have RP := Lib.hid (Rd.other HRY.out (q := ⟨x5.heap.size, 1, none⟩) (.int .i64 u) (by dsimp only; have h5 := H5.out; omega) (fun b o e h0 => by have := HC2.out b o e h0; have h5 := H5.out; dsimp only; omega))
        have c0 := KY.c (b := x5.heap.size) (T := 44) (vs := #[.int .i64 (1 + z2), .int .i64 z3, .bool (decide (0 < z4)), .bool false, .bool (z6 == 0)]) (by simp) 0 _ rfl
        have cf0 := KY.f (b := x5.heap.size) (T := 44) (vs := #[.int .i64 (1 + z2), .int .i64 z3, .bool (decide (0 < z4)), .bool false, .bool (z6 == 0)]) (by simp) 0
        have c1 := KY.c (b := x5.heap.size) (T := 44) (vs := #[.int .i64 (1 + z2), .int .i64 z3, .bool (decide (0 < z4)), .bool false, .bool (z6 == 0)]) (by simp) 1 _ rfl
        have cf1 := KY.f (b := x5.heap.size) (T := 44) (vs := #[.int .i64 (1 + z2), .int .i64 z3, .bool (decide (0 < z4)), .bool false, .bool (z6 == 0)]) (by simp) 1
        have c2 := KY.c (b := x5.heap.size) (T := 44) (vs := #[.int .i64 (1 + z2), .int .i64 z3, .bool (decide (0 < z4)), .bool false, .bool (z6 == 0)]) (by simp) 2 _ rfl
        have cf2 := KY.f (b := x5.heap.size) (T := 44) (vs := #[.int .i64 (1 + z2), .int .i64 z3, .bool (decide (0 < z4)), .bool false, .bool (z6 == 0)]) (by simp) 2
        have c3 := KY.c (b := x5.heap.size) (T := 44) (vs := #[.int .i64 (1 + z2), .int .i64 z3, .bool (decide (0 < z4)), .bool false, .bool (z6 == 0)]) (by simp) 3 _ rfl
        have cf3 := KY.f (b := x5.heap.size) (T := 44) (vs := #[.int .i64 (1 + z2), .int .i64 z3, .bool (decide (0 < z4)), .bool false, .bool (z6 == 0)]) (by simp) 3
        have c4 := KY.c (b := x5.heap.size) (T := 44) (vs := #[.int .i64 (1 + z2), .int .i64 z3, .bool (decide (0 < z4)), .bool false, .bool (z6 == 0)]) (by simp) 4 _ rfl
        have cf4 := KY.f (b := x5.heap.size) (T := 44) (vs := #[.int .i64 (1 + z2), .int .i64 z3, .bool (decide (0 < z4)), .bool false, .bool (z6 == 0)]) (by simp) 4
        have d0 := KY.c (b := w.heap.size) (T := 44) (vs := #[.int .i64 0, .int .i64 0, .bool false, .bool false, .bool false]) (by simp) 0 _ rfl
        have df0 := KY.f (b := w.heap.size) (T := 44) (vs := #[.int .i64 0, .int .i64 0, .bool false, .bool false, .bool false]) (by simp) 0
        have d1 := KY.c (b := w.heap.size) (T := 44) (vs := #[.int .i64 0, .int .i64 0, .bool false, .bool false, .bool false]) (by simp) 1 _ rfl
        have df1 := KY.f (b := w.heap.size) (T := 44) (vs := #[.int .i64 0, .int .i64 0, .bool false, .bool false, .bool false]) (by simp) 1
        have d2 := KY.c (b := w.heap.size) (T := 44) (vs := #[.int .i64 0, .int .i64 0, .bool false, .bool false, .bool false]) (by simp) 2 _ rfl
        have df2 := KY.f (b := w.heap.size) (T := 44) (vs := #[.int .i64 0, .int .i64 0, .bool false, .bool false, .bool false]) (by simp) 2
        have d3 := KY.c (b := w.heap.size) (T := 44) (vs := #[.int .i64 0, .int .i64 0, .bool false, .bool false, .bool false]) (by simp) 3 _ rfl
        have df3 := KY.f (b := w.heap.size) (T := 44) (vs := #[.int .i64 0, .int .i64 0, .bool false, .bool false, .bool false]) (by simp) 3
        have d4 := KY.c (b := w.heap.size) (T := 44) (vs := #[.int .i64 0, .int .i64 0, .bool false, .bool false, .bool false]) (by simp) 4 _ rfl
        have df4 := KY.f (b := w.heap.size) (T := 44) (vs := #[.int .i64 0, .int .i64 0, .bool false, .bool false, .bool false]) (by simp) 4
        have HKe := Lib.hid KP
        clear KP KY
        have hne : x5.heap.size ≠ w.heap.size := by have h5 := H5.out; omega
        have hne2 : w.heap.size ≠ x5.heap.size := by have h5 := H5.out; omega
        go_wp2_with fail
        refine bodyPost_ret (v := .agg #[.int .i64 (1 + z2), .int .i64 u, .bool (decide (0 < z4)), .bool false, .bool (z6 == 0)]) (by simp [results, Tryd.results96, go_sem, *]) rfl ?_
        have hcode := HC.out
        refine ⟨_, _, _, _, _, ?_, ?_, ?_, ?_, rfl, _, ?_, (Rd.other (Rd.other (Rd.other (Rd.other (Rd.other RP.out (q := ⟨w.heap.size, 0, none⟩) _ (by dsimp only; omega) hcode) (q := ⟨w.heap.size, 1, none⟩) _ (by dsimp only; omega) hcode) (q := ⟨w.heap.size, 2, none⟩) _ (by dsimp only; omega) hcode) (q := ⟨w.heap.size, 3, none⟩) _ (by dsimp only; omega) hcode) (q := ⟨w.heap.size, 4, none⟩) _ (by dsimp only; omega) hcode), (Grew.put (Grew.put (Grew.put (Grew.put (Grew.put HKe.out.1 (p := ⟨w.heap.size, 0, none⟩) (.inr (Nat.le_refl _)) _) (p := ⟨w.heap.size, 1, none⟩) (.inr (Nat.le_refl _)) _) (p := ⟨w.heap.size, 2, none⟩) (.inr (Nat.le_refl _)) _) (p := ⟨w.heap.size, 3, none⟩) (.inr (Nat.le_refl _)) _) (p := ⟨w.heap.size, 4, none⟩) (.inr (Nat.le_refl _)) _)⟩ <;> omega
      · have b0 : (z11 == 0) = false := by simp; omega
        have b1 : (z11 == 1) = false := by simp; omega
        have b2 : (z11 == 2) = false := by simp; omega
        have c0 := K11.c (b := x5.heap.size) (T := 44) (vs := #[.int .i64 (1 + z2), .int .i64 z3, .bool (decide (0 < z4)), .bool false, .bool (z6 == 0)]) (by simp) 0 _ rfl
        have c1 := K11.c (b := x5.heap.size) (T := 44) (vs := #[.int .i64 (1 + z2), .int .i64 z3, .bool (decide (0 < z4)), .bool false, .bool (z6 == 0)]) (by simp) 1 _ rfl
        have c2 := K11.c (b := x5.heap.size) (T := 44) (vs := #[.int .i64 (1 + z2), .int .i64 z3, .bool (decide (0 < z4)), .bool false, .bool (z6 == 0)]) (by simp) 2 _ rfl
        have c3 := K11.c (b := x5.heap.size) (T := 44) (vs := #[.int .i64 (1 + z2), .int .i64 z3, .bool (decide (0 < z4)), .bool false, .bool (z6 == 0)]) (by simp) 3 _ rfl
        have c4 := K11.c (b := x5.heap.size) (T := 44) (vs := #[.int .i64 (1 + z2), .int .i64 z3, .bool (decide (0 < z4)), .bool false, .bool (z6 == 0)]) (by simp) 4 _ rfl
        have d0 := K11.c (b := w.heap.size) (T := 44) (vs := #[.int .i64 0, .int .i64 0, .bool false, .bool false, .bool false]) (by simp) 0 _ rfl
        have df0 := K11.f (b := w.heap.size) (T := 44) (vs := #[.int .i64 0, .int .i64 0, .bool false, .bool false, .bool false]) (by simp) 0
        have d1 := K11.c (b := w.heap.size) (T := 44) (vs := #[.int .i64 0, .int .i64 0, .bool false, .bool false, .bool false]) (by simp) 1 _ rfl
        have df1 := K11.f (b := w.heap.size) (T := 44) (vs := #[.int .i64 0, .int .i64 0, .bool false, .bool false, .bool false]) (by simp) 1
        have d2 := K11.c (b := w.heap.size) (T := 44) (vs := #[.int .i64 0, .int .i64 0, .bool false, .bool false, .bool false]) (by simp) 2 _ rfl
        have df2 := K11.f (b := w.heap.size) (T := 44) (vs := #[.int .i64 0, .int .i64 0, .bool false, .bool false, .bool false]) (by simp) 2
        have d3 := K11.c (b := w.heap.size) (T := 44) (vs := #[.int .i64 0, .int .i64 0, .bool false, .bool false, .bool false]) (by simp) 3 _ rfl
        have df3 := K11.f (b := w.heap.size) (T := 44) (vs := #[.int .i64 0, .int .i64 0, .bool false, .bool false, .bool false]) (by simp) 3
        have d4 := K11.c (b := w.heap.size) (T := 44) (vs := #[.int .i64 0, .int .i64 0, .bool false, .bool false, .bool false]) (by simp) 4 _ rfl
        have df4 := K11.f (b := w.heap.size) (T := 44) (vs := #[.int .i64 0, .int .i64 0, .bool false, .bool false, .bool false]) (by simp) 4
        have HKe := Lib.hid K11
        clear K11
        have hne : x5.heap.size ≠ w.heap.size := by have := HKe.out.2 (x5.heap.size, 44, #[.int .i64 (1 + z2), .int .i64 z3, .bool (decide (0 < z4)), .bool false, .bool (z6 == 0)]) (by simp); have h5 := H5.out; omega
        go_wp2_with fail
        refine bodyPost_ret (v := .agg #[.int .i64 (1 + z2), .int .i64 z3, .bool (decide (0 < z4)), .bool false, .bool (z6 == 0)]) (by simp [results, Tryd.results96, go_sem, *]) rfl ?_
        have hcode := HC.out
        refine ⟨_, _, _, _, _, ?_, ?_, ?_, ?_, rfl, _, ?_, (Rd.other (Rd.other (Rd.other (Rd.other (Rd.other HR11.out (q := ⟨w.heap.size, 0, none⟩) _ (by dsimp only; omega) hcode) (q := ⟨w.heap.size, 1, none⟩) _ (by dsimp only; omega) hcode) (q := ⟨w.heap.size, 2, none⟩) _ (by dsimp only; omega) hcode) (q := ⟨w.heap.size, 3, none⟩) _ (by dsimp only; omega) hcode) (q := ⟨w.heap.size, 4, none⟩) _ (by dsimp only; omega) hcode), (Grew.put (Grew.put (Grew.put (Grew.put (Grew.put HKe.out.1 (p := ⟨w.heap.size, 0, none⟩) (.inr (Nat.le_refl _)) _) (p := ⟨w.heap.size, 1, none⟩) (.inr (Nat.le_refl _)) _) (p := ⟨w.heap.size, 2, none⟩) (.inr (Nat.le_refl _)) _) (p := ⟨w.heap.size, 3, none⟩) (.inr (Nat.le_refl _)) _) (p := ⟨w.heap.size, 4, none⟩) (.inr (Nat.le_refl _)) _)⟩ <;> omega
end Go.Proofs.YtpahahonopiblaaDoor
