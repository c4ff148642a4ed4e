/-
  A drawn label: whatever the code, spec.l71Label hands back a label whose numbers are small, and only moves the reader on.
-/
import Derived.Test.YtpahahonopiblaaDoorDraw
import Derived.Test.YtpahahonopiblaaDoorInv
import Derived.Test.YtpahahonopiblaaDoorLabA
namespace Go.Proofs.YtpahahonopiblaaDoor
open Go.RowKit
set_option maxRecDepth 100000
set_option linter.unusedVariables false

def I1F0 (r : Nat) (a : Option Addr) (len cap : Nat) (zs : List Int) (p : Nat) (W : World) (v4 : Value) (w : World) : Prop := ∃ b, v4 = .slice (some ⟨b, 0, none⟩) 5 5 ∧ W.heap.size < b ∧ Box w b 3 #[.int .i64 0, .int .i64 0, .int .i64 1, .int .i64 2, .int .i64 3]
def I1F1 (r : Nat) (a : Option Addr) (len cap : Nat) (zs : List Int) (p : Nat) (W : World) (v5 : Value) (w : World) : Prop := v5 = .pointer (some ⟨r, 0, none⟩)
def I1F2 (r : Nat) (a : Option Addr) (len cap : Nat) (zs : List Int) (p : Nat) (W : World) (v6 : Value) (w : World) : Prop := ∃ x : Nat, x < 5 ∧ v6 = .int .i64 x
def I1F3 (r : Nat) (a : Option Addr) (len cap : Nat) (zs : List Int) (p : Nat) (W : World) (v7 : Value) (w : World) : Prop := ∃ b i : Nat, i < 5 ∧ v7 = .pointer (some ⟨b, i, none⟩) ∧ W.heap.size < b ∧ Box w b 3 #[.int .i64 0, .int .i64 0, .int .i64 1, .int .i64 2, .int .i64 3]
def I1F4 (r : Nat) (a : Option Addr) (len cap : Nat) (zs : List Int) (p : Nat) (W : World) (v8 : Value) (w : World) : Prop := ∃ x : Int, okN x = true ∧ v8 = .int .i64 x
def I1F5 (r : Nat) (a : Option Addr) (len cap : Nat) (zs : List Int) (p : Nat) (W : World) (v9 : Value) (w : World) : Prop := ∃ b, v9 = .slice (some ⟨b, 0, none⟩) 4 4 ∧ W.heap.size < b ∧ Box w b 3 #[.int .i64 0, .int .i64 0, .int .i64 3, .int .i64 1]
def I1F6 (r : Nat) (a : Option Addr) (len cap : Nat) (zs : List Int) (p : Nat) (W : World) (v10 : Value) (w : World) : Prop := v10 = .pointer (some ⟨r, 0, none⟩)
def I1F7 (r : Nat) (a : Option Addr) (len cap : Nat) (zs : List Int) (p : Nat) (W : World) (v11 : Value) (w : World) : Prop := ∃ x : Nat, x < 4 ∧ v11 = .int .i64 x
def I1F8 (r : Nat) (a : Option Addr) (len cap : Nat) (zs : List Int) (p : Nat) (W : World) (v12 : Value) (w : World) : Prop := ∃ b i : Nat, i < 4 ∧ v12 = .pointer (some ⟨b, i, none⟩) ∧ W.heap.size < b ∧ Box w b 3 #[.int .i64 0, .int .i64 0, .int .i64 3, .int .i64 1]
def I1F9 (r : Nat) (a : Option Addr) (len cap : Nat) (zs : List Int) (p : Nat) (W : World) (v13 : Value) (w : World) : Prop := ∃ x : Int, okN x = true ∧ v13 = .int .i64 x
def I1F10 (r : Nat) (a : Option Addr) (len cap : Nat) (zs : List Int) (p : Nat) (W : World) (v14 : Value) (w : World) : Prop := ∃ s v : Int, okN s = true ∧ okN v = true ∧ v14 = lab s v
def I1F11 (r : Nat) (a : Option Addr) (len cap : Nat) (zs : List Int) (p : Nat) (W : World) (v3 : Value) (w : World) : Prop := ∃ b : Nat, ∃ s v : Int, v3 = .pointer (some ⟨b, 0, none⟩) ∧ W.heap.size < b ∧ Box w b 33 #[.int .i64 s, .int .i64 v]
def I1F12 (r : Nat) (a : Option Addr) (len cap : Nat) (zs : List Int) (p : Nat) (W : World) (v3 : Value) (w : World) : Prop := ∃ b : Nat, ∃ s v : Int, okN s = true ∧ okN v = true ∧ v3 = .pointer (some ⟨b, 0, none⟩) ∧ W.heap.size < b ∧ Box w b 33 #[.int .i64 s, .int .i64 v]
def I1W (r : Nat) (a : Option Addr) (len cap : Nat) (zs : List Int) (p : Nat) (W : World) (L : Nat → Bool) (w : World) : Prop := Grew r W w ∧ W.heap.size < w.heap.size ∧ Box w W.heap.size 33 #[.int .i64 0, .int .i64 0] ∧ Rd w r a len cap zs (p + (if L 2 then 1 else 0) + (if L 7 then 1 else 0)) ∧ (L 12 = true → L 11 = true)
def I1 (r : Nat) (a : Option Addr) (len cap : Nat) (zs : List Int) (p : Nat) (W : World) (L : Nat → Bool) (A : Act) (w : World) : Prop := ∃ v3 v4 v5 v6 v7 v8 v9 v10 v11 v12 v13 v14 : Value, A = { tmps := #[.pointer (some ⟨r, 0, none⟩), undef, .pointer (some ⟨W.heap.size, 0, none⟩), v3, v4, v5, v6, v7, v8, v9, v10, v11, v12, v13, v14, undef, undef, undef, undef, undef, undef, undef, undef, undef, undef], defers := [] } ∧ I1W r a len cap zs p W L w ∧ (L 0 = true → I1F0 r a len cap zs p W v4 w) ∧ (L 1 = true → I1F1 r a len cap zs p W v5 w) ∧ (L 2 = true → I1F2 r a len cap zs p W v6 w) ∧ (L 3 = true → I1F3 r a len cap zs p W v7 w) ∧ (L 4 = true → I1F4 r a len cap zs p W v8 w) ∧ (L 5 = true → I1F5 r a len cap zs p W v9 w) ∧ (L 6 = true → I1F6 r a len cap zs p W v10 w) ∧ (L 7 = true → I1F7 r a len cap zs p W v11 w) ∧ (L 8 = true → I1F8 r a len cap zs p W v12 w) ∧ (L 9 = true → I1F9 r a len cap zs p W v13 w) ∧ (L 10 = true → I1F10 r a len cap zs p W v14 w) ∧ (L 11 = true → I1F11 r a len cap zs p W v3 w) ∧ (L 12 = true → I1F12 r a len cap zs p W v3 w)
theorem I1F0.keep {r : Nat} {a : Option Addr} {len cap : Nat} {zs : List Int} {p : Nat} {W : World} {v : Value} {w w' : World} (kp : ∀ b vs, W.heap.size < b → Box w b 3 vs → Box w' b 3 vs) (h : I1F0 r a len cap zs p W v w) : I1F0 r a len cap zs p W v w' := by
  obtain ⟨b, e, hb, hB⟩ := h; exact ⟨b, e, hb, kp _ _ hb hB⟩
theorem I1F3.keep {r : Nat} {a : Option Addr} {len cap : Nat} {zs : List Int} {p : Nat} {W : World} {v : Value} {w w' : World} (kp : ∀ b vs, W.heap.size < b → Box w b 3 vs → Box w' b 3 vs) (h : I1F3 r a len cap zs p W v w) : I1F3 r a len cap zs p W v w' := by
  obtain ⟨b, i, hi, e, hb, hB⟩ := h; exact ⟨b, i, hi, e, hb, kp _ _ hb hB⟩
theorem I1F5.keep {r : Nat} {a : Option Addr} {len cap : Nat} {zs : List Int} {p : Nat} {W : World} {v : Value} {w w' : World} (kp : ∀ b vs, W.heap.size < b → Box w b 3 vs → Box w' b 3 vs) (h : I1F5 r a len cap zs p W v w) : I1F5 r a len cap zs p W v w' := by
  obtain ⟨b, e, hb, hB⟩ := h; exact ⟨b, e, hb, kp _ _ hb hB⟩
theorem I1F8.keep {r : Nat} {a : Option Addr} {len cap : Nat} {zs : List Int} {p : Nat} {W : World} {v : Value} {w w' : World} (kp : ∀ b vs, W.heap.size < b → Box w b 3 vs → Box w' b 3 vs) (h : I1F8 r a len cap zs p W v w) : I1F8 r a len cap zs p W v w' := by
  obtain ⟨b, i, hi, e, hb, hB⟩ := h; exact ⟨b, i, hi, e, hb, kp _ _ hb hB⟩
theorem I1F11.keep {r : Nat} {a : Option Addr} {len cap : Nat} {zs : List Int} {p : Nat} {W : World} {v : Value} {w w' : World} (kp : ∀ b vs, W.heap.size < b → Box w b 33 vs → Box w' b 33 vs) (h : I1F11 r a len cap zs p W v w) : I1F11 r a len cap zs p W v w' := by
  obtain ⟨b, s, u, e, hb, hB⟩ := h; exact ⟨b, s, u, e, hb, kp _ _ hb hB⟩
theorem I1F12.keep {r : Nat} {a : Option Addr} {len cap : Nat} {zs : List Int} {p : Nat} {W : World} {v : Value} {w w' : World} (kp : ∀ b vs, W.heap.size < b → Box w b 33 vs → Box w' b 33 vs) (h : I1F12 r a len cap zs p W v w) : I1F12 r a len cap zs p W v w' := by
  obtain ⟨b, s, u, h1, h2, e, hb, hB⟩ := h; exact ⟨b, s, u, h1, h2, e, hb, kp _ _ hb hB⟩

/-- What a drawn label leaves. -/
def LabPost (r : Nat) (a : Option Addr) (len cap : Nat) (zs : List Int) (p : Nat) (w : World) (e : Ending) (w' : World) : Prop :=
  ∃ s v : Int, -1 ≤ s ∧ s ≤ 4 ∧ okN v = true ∧ e = .returned (lab s v) ∧ ∃ p', p' ≤ p + 4 ∧ Rd w' r a len cap zs p' ∧ Grew r w w'

set_option maxHeartbeats 4000000 in
theorem l71Label_any (r : Nat) (a : Option Addr) (len cap : Nat) (zs : List Int) (p : Nat) (w : World) (hR : Rd w r a len cap zs p) (hp : p ≤ 900000) :
    Calls Tryd.prog 65 #[.pointer (some ⟨r, 0, none⟩)] w (LabPost r a len cap zs p w) := by
  go_enter Tryd.func65, Tryd.ntmps65
  go_wp2_with fail
  refine wp_region_steps (by kernel_rfl) (by kernel_rfl) (by kernel_rfl) (I1 r a len cap zs p w) ?_ ⟨?_, ?_, ?_, ?_, ?_, ?_, ?_, ?_, ?_, ?_, ?_, ?_, ?_, trivial⟩ ?_
  · exact ⟨_, _, _, _, _, _, _, _, _, _, _, _, rfl, ⟨((Grew.refl r w).alloc _).drew, by show _ < (w.alloc _).heap.size; simp, (Box.fresh _ _ _).drew, (hR.past _).drew, fun h => absurd h (by decide)⟩, fun h => absurd h (by decide), fun h => absurd h (by decide), fun h => absurd h (by decide), fun h => absurd h (by decide), fun h => absurd h (by decide), fun h => absurd h (by decide), fun h => absurd h (by decide), fun h => absurd h (by decide), fun h => absurd h (by decide), fun h => absurd h (by decide), fun h => absurd h (by decide), fun h => absurd h (by decide), fun h => absurd h (by decide)⟩
  · rintro L A x ⟨v3, v4, v5, v6, v7, v8, v9, v10, v11, v12, v13, v14, rfl, hw, f0, f1, f2, f3, f4, f5, f6, f7, f8, f9, f10, f11, f12⟩ hL hdep K hK
    clear hdep
    have F0 := Lib.hid f0
    have F1 := Lib.hid f1
    have F2 := Lib.hid f2
    have F3 := Lib.hid f3
    have F4 := Lib.hid f4
    have F5 := Lib.hid f5
    have F6 := Lib.hid f6
    have F7 := Lib.hid f7
    have F8 := Lib.hid f8
    have F9 := Lib.hid f9
    have F10 := Lib.hid f10
    have F11 := Lib.hid f11
    have F12 := Lib.hid f12
    have HW := Lib.hid hw
    clear hw f0 f1 f2 f3 f4 f5 f6 f7 f8 f9 f10 f11 f12
    go_simp
    refine hK.out _ _ ?_
    obtain ⟨g1, g2, g3, g4, g5⟩ := HW.out
    have kp : ∀ (o : Obj) b T vs, w.heap.size < b → Box x b T vs → Box (x.alloc o) b T vs := fun o b T vs _ h => h.past o
    have hw' : ∀ o : Obj, I1W r a len cap zs p w (upd L 0) (x.alloc o) := fun o => ⟨g1.alloc o, by simp; omega, g3.past o, g4.past o, g5⟩
    exact ⟨_, _, _, _, _, _, _, _, _, _, _, _, rfl, hw' _, fun _ => ⟨_, rfl, g2, Box.fresh _ _ _⟩, fun hk => (F1.out ((upd_ne (by decide)).symm.trans hk)), fun hk => (F2.out ((upd_ne (by decide)).symm.trans hk)), fun hk => I1F3.keep (fun b vs => kp _ b _ vs) (F3.out ((upd_ne (by decide)).symm.trans hk)), fun hk => (F4.out ((upd_ne (by decide)).symm.trans hk)), fun hk => I1F5.keep (fun b vs => kp _ b _ vs) (F5.out ((upd_ne (by decide)).symm.trans hk)), fun hk => (F6.out ((upd_ne (by decide)).symm.trans hk)), fun hk => (F7.out ((upd_ne (by decide)).symm.trans hk)), fun hk => I1F8.keep (fun b vs => kp _ b _ vs) (F8.out ((upd_ne (by decide)).symm.trans hk)), fun hk => (F9.out ((upd_ne (by decide)).symm.trans hk)), fun hk => (F10.out ((upd_ne (by decide)).symm.trans hk)), fun hk => I1F11.keep (fun b vs => kp _ b _ vs) (F11.out ((upd_ne (by decide)).symm.trans hk)), fun hk => I1F12.keep (fun b vs => kp _ b _ vs) (F12.out ((upd_ne (by decide)).symm.trans hk))⟩
  · rintro L A x ⟨v3, v4, v5, v6, v7, v8, v9, v10, v11, v12, v13, v14, rfl, hw, f0, f1, f2, f3, f4, f5, f6, f7, f8, f9, f10, f11, f12⟩ hL hdep K hK
    clear hdep
    have F0 := Lib.hid f0
    have F1 := Lib.hid f1
    have F2 := Lib.hid f2
    have F3 := Lib.hid f3
    have F4 := Lib.hid f4
    have F5 := Lib.hid f5
    have F6 := Lib.hid f6
    have F7 := Lib.hid f7
    have F8 := Lib.hid f8
    have F9 := Lib.hid f9
    have F10 := Lib.hid f10
    have F11 := Lib.hid f11
    have F12 := Lib.hid f12
    have HW := Lib.hid hw
    clear hw f0 f1 f2 f3 f4 f5 f6 f7 f8 f9 f10 f11 f12
    go_simp
    refine hK.out _ _ ?_
    exact ⟨_, _, _, _, _, _, _, _, _, _, _, _, rfl, HW.out, fun hk => (F0.out ((upd_ne (by decide)).symm.trans hk)), fun _ => rfl, fun hk => (F2.out ((upd_ne (by decide)).symm.trans hk)), fun hk => (F3.out ((upd_ne (by decide)).symm.trans hk)), fun hk => (F4.out ((upd_ne (by decide)).symm.trans hk)), fun hk => (F5.out ((upd_ne (by decide)).symm.trans hk)), fun hk => (F6.out ((upd_ne (by decide)).symm.trans hk)), fun hk => (F7.out ((upd_ne (by decide)).symm.trans hk)), fun hk => (F8.out ((upd_ne (by decide)).symm.trans hk)), fun hk => (F9.out ((upd_ne (by decide)).symm.trans hk)), fun hk => (F10.out ((upd_ne (by decide)).symm.trans hk)), fun hk => (F11.out ((upd_ne (by decide)).symm.trans hk)), fun hk => (F12.out ((upd_ne (by decide)).symm.trans hk))⟩
  · rintro L A x ⟨v3, v4, v5, v6, v7, v8, v9, v10, v11, v12, v13, v14, rfl, hw, f0, f1, f2, f3, f4, f5, f6, f7, f8, f9, f10, f11, f12⟩ hL hdep K hK
    simp at hdep
    have e := f1 hdep
    unfold I1F1 at e
    subst e
    have F0 := Lib.hid f0
    have F1 := Lib.hid f1
    have F2 := Lib.hid f2
    have F3 := Lib.hid f3
    have F4 := Lib.hid f4
    have F5 := Lib.hid f5
    have F6 := Lib.hid f6
    have F7 := Lib.hid f7
    have F8 := Lib.hid f8
    have F9 := Lib.hid f9
    have F10 := Lib.hid f10
    have F11 := Lib.hid f11
    have F12 := Lib.hid f12
    have HW := Lib.hid hw
    clear hw f0 f1 f2 f3 f4 f5 f6 f7 f8 f9 f10 f11 f12
    have HL := Lib.hid hL
    clear hL
    go_simp
    obtain ⟨g1, g2, g3, g4, g5⟩ := HW.out
    refine (pick_any r a len cap zs _ 5 _ g4 ?_ (by omega) (by omega)).mono ?_
    · split <;> split <;> omega
    rintro e y ⟨z, z0, z1, rfl, q1, q2, q3⟩
    go_simp
    refine hK.out _ _ ?_
    have hr := hR.lt
    have kp : ∀ b T vs, w.heap.size < b → Box x b T vs → Box y b T vs := fun b T vs hb h => h.grew q2 (by omega)
    obtain ⟨m, rfl⟩ := Int.eq_ofNat_of_zero_le z0
    have hw' : I1W r a len cap zs p w (upd L 2) y := ⟨g1.trans q2, by omega, g3.grew q2 (by omega), by
      have hl := HL.out
      simp only [upd, hl] at q1 ⊢
      simpa [Nat.add_assoc, Nat.add_comm, Nat.add_left_comm] using q1, g5⟩
    exact ⟨_, _, _, _, _, _, _, _, _, _, _, _, rfl, hw', fun hk => I1F0.keep (fun b vs => kp b _ vs) (F0.out ((upd_ne (by decide)).symm.trans hk)), fun hk => (F1.out ((upd_ne (by decide)).symm.trans hk)), fun _ => ⟨m, by omega, rfl⟩, fun hk => I1F3.keep (fun b vs => kp b _ vs) (F3.out ((upd_ne (by decide)).symm.trans hk)), fun hk => (F4.out ((upd_ne (by decide)).symm.trans hk)), fun hk => I1F5.keep (fun b vs => kp b _ vs) (F5.out ((upd_ne (by decide)).symm.trans hk)), fun hk => (F6.out ((upd_ne (by decide)).symm.trans hk)), fun hk => (F7.out ((upd_ne (by decide)).symm.trans hk)), fun hk => I1F8.keep (fun b vs => kp b _ vs) (F8.out ((upd_ne (by decide)).symm.trans hk)), fun hk => (F9.out ((upd_ne (by decide)).symm.trans hk)), fun hk => (F10.out ((upd_ne (by decide)).symm.trans hk)), fun hk => I1F11.keep (fun b vs => kp b _ vs) (F11.out ((upd_ne (by decide)).symm.trans hk)), fun hk => I1F12.keep (fun b vs => kp b _ vs) (F12.out ((upd_ne (by decide)).symm.trans hk))⟩
  · rintro L A x ⟨v3, v4, v5, v6, v7, v8, v9, v10, v11, v12, v13, v14, rfl, hw, f0, f1, f2, f3, f4, f5, f6, f7, f8, f9, f10, f11, f12⟩ hL hdep K hK
    simp at hdep
    obtain ⟨b, rfl, hb, hB⟩ := f0 hdep.1
    obtain ⟨m, hm, rfl⟩ := f2 hdep.2
    have F0 := Lib.hid f0
    have F1 := Lib.hid f1
    have F2 := Lib.hid f2
    have F3 := Lib.hid f3
    have F4 := Lib.hid f4
    have F5 := Lib.hid f5
    have F6 := Lib.hid f6
    have F7 := Lib.hid f7
    have F8 := Lib.hid f8
    have F9 := Lib.hid f9
    have F10 := Lib.hid f10
    have F11 := Lib.hid f11
    have F12 := Lib.hid f12
    have HW := Lib.hid hw
    clear hw f0 f1 f2 f3 f4 f5 f6 f7 f8 f9 f10 f11 f12
    have hm' : (m : Int) < 5 := by omega
    go_simp
    refine hK.out _ _ ?_
    exact ⟨_, _, _, _, _, _, _, _, _, _, _, _, rfl, HW.out, fun hk => (F0.out ((upd_ne (by decide)).symm.trans hk)), fun hk => (F1.out ((upd_ne (by decide)).symm.trans hk)), fun hk => (F2.out ((upd_ne (by decide)).symm.trans hk)), fun _ => ⟨b, m, hm, rfl, hb, hB⟩, fun hk => (F4.out ((upd_ne (by decide)).symm.trans hk)), fun hk => (F5.out ((upd_ne (by decide)).symm.trans hk)), fun hk => (F6.out ((upd_ne (by decide)).symm.trans hk)), fun hk => (F7.out ((upd_ne (by decide)).symm.trans hk)), fun hk => (F8.out ((upd_ne (by decide)).symm.trans hk)), fun hk => (F9.out ((upd_ne (by decide)).symm.trans hk)), fun hk => (F10.out ((upd_ne (by decide)).symm.trans hk)), fun hk => (F11.out ((upd_ne (by decide)).symm.trans hk)), fun hk => (F12.out ((upd_ne (by decide)).symm.trans hk))⟩
  · rintro L A x ⟨v3, v4, v5, v6, v7, v8, v9, v10, v11, v12, v13, v14, rfl, hw, f0, f1, f2, f3, f4, f5, f6, f7, f8, f9, f10, f11, f12⟩ hL hdep K hK
    simp at hdep
    obtain ⟨b, m, hm, rfl, hb, hB⟩ := f3 hdep
    obtain ⟨z, hz, hc⟩ : ∃ z : Int, okN z = true ∧ x.cell? ⟨b, m, none⟩ = some (.int .i64 z) := by
      rcases (by omega : m = 0 ∨ m = 1 ∨ m = 2 ∨ m = 3 ∨ m = 4) with rfl | rfl | rfl | rfl | rfl
      · exact ⟨0, rfl, hB.cell _ _ rfl⟩
      · exact ⟨0, rfl, hB.cell _ _ rfl⟩
      · exact ⟨1, rfl, hB.cell _ _ rfl⟩
      · exact ⟨2, rfl, hB.cell _ _ rfl⟩
      · exact ⟨3, rfl, hB.cell _ _ rfl⟩
    have F0 := Lib.hid f0
    have F1 := Lib.hid f1
    have F2 := Lib.hid f2
    have F3 := Lib.hid f3
    have F4 := Lib.hid f4
    have F5 := Lib.hid f5
    have F6 := Lib.hid f6
    have F7 := Lib.hid f7
    have F8 := Lib.hid f8
    have F9 := Lib.hid f9
    have F10 := Lib.hid f10
    have F11 := Lib.hid f11
    have F12 := Lib.hid f12
    have HW := Lib.hid hw
    clear hw f0 f1 f2 f3 f4 f5 f6 f7 f8 f9 f10 f11 f12
    go_simp
    refine hK.out _ _ ?_
    exact ⟨_, _, _, _, _, _, _, _, _, _, _, _, rfl, HW.out, fun hk => (F0.out ((upd_ne (by decide)).symm.trans hk)), fun hk => (F1.out ((upd_ne (by decide)).symm.trans hk)), fun hk => (F2.out ((upd_ne (by decide)).symm.trans hk)), fun hk => (F3.out ((upd_ne (by decide)).symm.trans hk)), fun _ => ⟨z, hz, rfl⟩, fun hk => (F5.out ((upd_ne (by decide)).symm.trans hk)), fun hk => (F6.out ((upd_ne (by decide)).symm.trans hk)), fun hk => (F7.out ((upd_ne (by decide)).symm.trans hk)), fun hk => (F8.out ((upd_ne (by decide)).symm.trans hk)), fun hk => (F9.out ((upd_ne (by decide)).symm.trans hk)), fun hk => (F10.out ((upd_ne (by decide)).symm.trans hk)), fun hk => (F11.out ((upd_ne (by decide)).symm.trans hk)), fun hk => (F12.out ((upd_ne (by decide)).symm.trans hk))⟩
  · rintro L A x ⟨v3, v4, v5, v6, v7, v8, v9, v10, v11, v12, v13, v14, rfl, hw, f0, f1, f2, f3, f4, f5, f6, f7, f8, f9, f10, f11, f12⟩ hL hdep K hK
    clear hdep
    have F0 := Lib.hid f0
    have F1 := Lib.hid f1
    have F2 := Lib.hid f2
    have F3 := Lib.hid f3
    have F4 := Lib.hid f4
    have F5 := Lib.hid f5
    have F6 := Lib.hid f6
    have F7 := Lib.hid f7
    have F8 := Lib.hid f8
    have F9 := Lib.hid f9
    have F10 := Lib.hid f10
    have F11 := Lib.hid f11
    have F12 := Lib.hid f12
    have HW := Lib.hid hw
    clear hw f0 f1 f2 f3 f4 f5 f6 f7 f8 f9 f10 f11 f12
    go_simp
    refine hK.out _ _ ?_
    obtain ⟨g1, g2, g3, g4, g5⟩ := HW.out
    have kp : ∀ (o : Obj) b T vs, w.heap.size < b → Box x b T vs → Box (x.alloc o) b T vs := fun o b T vs _ h => h.past o
    have hw' : ∀ o : Obj, I1W r a len cap zs p w (upd L 5) (x.alloc o) := fun o => ⟨g1.alloc o, by simp; omega, g3.past o, g4.past o, g5⟩
    exact ⟨_, _, _, _, _, _, _, _, _, _, _, _, rfl, hw' _, fun hk => I1F0.keep (fun b vs => kp _ b _ vs) (F0.out ((upd_ne (by decide)).symm.trans hk)), fun hk => (F1.out ((upd_ne (by decide)).symm.trans hk)), fun hk => (F2.out ((upd_ne (by decide)).symm.trans hk)), fun hk => I1F3.keep (fun b vs => kp _ b _ vs) (F3.out ((upd_ne (by decide)).symm.trans hk)), fun hk => (F4.out ((upd_ne (by decide)).symm.trans hk)), fun _ => ⟨_, rfl, g2, Box.fresh _ _ _⟩, fun hk => (F6.out ((upd_ne (by decide)).symm.trans hk)), fun hk => (F7.out ((upd_ne (by decide)).symm.trans hk)), fun hk => I1F8.keep (fun b vs => kp _ b _ vs) (F8.out ((upd_ne (by decide)).symm.trans hk)), fun hk => (F9.out ((upd_ne (by decide)).symm.trans hk)), fun hk => (F10.out ((upd_ne (by decide)).symm.trans hk)), fun hk => I1F11.keep (fun b vs => kp _ b _ vs) (F11.out ((upd_ne (by decide)).symm.trans hk)), fun hk => I1F12.keep (fun b vs => kp _ b _ vs) (F12.out ((upd_ne (by decide)).symm.trans hk))⟩
  · rintro L A x ⟨v3, v4, v5, v6, v7, v8, v9, v10, v11, v12, v13, v14, rfl, hw, f0, f1, f2, f3, f4, f5, f6, f7, f8, f9, f10, f11, f12⟩ hL hdep K hK
    clear hdep
    have F0 := Lib.hid f0
    have F1 := Lib.hid f1
    have F2 := Lib.hid f2
    have F3 := Lib.hid f3
    have F4 := Lib.hid f4
    have F5 := Lib.hid f5
    have F6 := Lib.hid f6
    have F7 := Lib.hid f7
    have F8 := Lib.hid f8
    have F9 := Lib.hid f9
    have F10 := Lib.hid f10
    have F11 := Lib.hid f11
    have F12 := Lib.hid f12
    have HW := Lib.hid hw
    clear hw f0 f1 f2 f3 f4 f5 f6 f7 f8 f9 f10 f11 f12
    go_simp
    refine hK.out _ _ ?_
    exact ⟨_, _, _, _, _, _, _, _, _, _, _, _, rfl, HW.out, fun hk => (F0.out ((upd_ne (by decide)).symm.trans hk)), fun hk => (F1.out ((upd_ne (by decide)).symm.trans hk)), fun hk => (F2.out ((upd_ne (by decide)).symm.trans hk)), fun hk => (F3.out ((upd_ne (by decide)).symm.trans hk)), fun hk => (F4.out ((upd_ne (by decide)).symm.trans hk)), fun hk => (F5.out ((upd_ne (by decide)).symm.trans hk)), fun _ => rfl, fun hk => (F7.out ((upd_ne (by decide)).symm.trans hk)), fun hk => (F8.out ((upd_ne (by decide)).symm.trans hk)), fun hk => (F9.out ((upd_ne (by decide)).symm.trans hk)), fun hk => (F10.out ((upd_ne (by decide)).symm.trans hk)), fun hk => (F11.out ((upd_ne (by decide)).symm.trans hk)), fun hk => (F12.out ((upd_ne (by decide)).symm.trans hk))⟩
  · rintro L A x ⟨v3, v4, v5, v6, v7, v8, v9, v10, v11, v12, v13, v14, rfl, hw, f0, f1, f2, f3, f4, f5, f6, f7, f8, f9, f10, f11, f12⟩ hL hdep K hK
    simp at hdep
    have e := f6 hdep.1
    unfold I1F6 at e
    subst e
    have F0 := Lib.hid f0
    have F1 := Lib.hid f1
    have F2 := Lib.hid f2
    have F3 := Lib.hid f3
    have F4 := Lib.hid f4
    have F5 := Lib.hid f5
    have F6 := Lib.hid f6
    have F7 := Lib.hid f7
    have F8 := Lib.hid f8
    have F9 := Lib.hid f9
    have F10 := Lib.hid f10
    have F11 := Lib.hid f11
    have F12 := Lib.hid f12
    have HW := Lib.hid hw
    clear hw f0 f1 f2 f3 f4 f5 f6 f7 f8 f9 f10 f11 f12
    have HL := Lib.hid hL
    clear hL
    go_simp
    obtain ⟨g1, g2, g3, g4, g5⟩ := HW.out
    refine (pick_any r a len cap zs _ 4 _ g4 ?_ (by omega) (by omega)).mono ?_
    · split <;> split <;> omega
    rintro e y ⟨z, z0, z1, rfl, q1, q2, q3⟩
    go_simp
    refine hK.out _ _ ?_
    have hr := hR.lt
    have kp : ∀ b T vs, w.heap.size < b → Box x b T vs → Box y b T vs := fun b T vs hb h => h.grew q2 (by omega)
    obtain ⟨m, rfl⟩ := Int.eq_ofNat_of_zero_le z0
    have hw' : I1W r a len cap zs p w (upd L 7) y := ⟨g1.trans q2, by omega, g3.grew q2 (by omega), by
      have hl := HL.out
      simp only [upd, hl] at q1 ⊢
      simpa [Nat.add_assoc, Nat.add_comm, Nat.add_left_comm] using q1, g5⟩
    exact ⟨_, _, _, _, _, _, _, _, _, _, _, _, rfl, hw', fun hk => I1F0.keep (fun b vs => kp b _ vs) (F0.out ((upd_ne (by decide)).symm.trans hk)), fun hk => (F1.out ((upd_ne (by decide)).symm.trans hk)), fun hk => (F2.out ((upd_ne (by decide)).symm.trans hk)), fun hk => I1F3.keep (fun b vs => kp b _ vs) (F3.out ((upd_ne (by decide)).symm.trans hk)), fun hk => (F4.out ((upd_ne (by decide)).symm.trans hk)), fun hk => I1F5.keep (fun b vs => kp b _ vs) (F5.out ((upd_ne (by decide)).symm.trans hk)), fun hk => (F6.out ((upd_ne (by decide)).symm.trans hk)), fun _ => ⟨m, by omega, rfl⟩, fun hk => I1F8.keep (fun b vs => kp b _ vs) (F8.out ((upd_ne (by decide)).symm.trans hk)), fun hk => (F9.out ((upd_ne (by decide)).symm.trans hk)), fun hk => (F10.out ((upd_ne (by decide)).symm.trans hk)), fun hk => I1F11.keep (fun b vs => kp b _ vs) (F11.out ((upd_ne (by decide)).symm.trans hk)), fun hk => I1F12.keep (fun b vs => kp b _ vs) (F12.out ((upd_ne (by decide)).symm.trans hk))⟩
  · rintro L A x ⟨v3, v4, v5, v6, v7, v8, v9, v10, v11, v12, v13, v14, rfl, hw, f0, f1, f2, f3, f4, f5, f6, f7, f8, f9, f10, f11, f12⟩ hL hdep K hK
    simp at hdep
    obtain ⟨b, rfl, hb, hB⟩ := f5 hdep.1
    obtain ⟨m, hm, rfl⟩ := f7 hdep.2
    have F0 := Lib.hid f0
    have F1 := Lib.hid f1
    have F2 := Lib.hid f2
    have F3 := Lib.hid f3
    have F4 := Lib.hid f4
    have F5 := Lib.hid f5
    have F6 := Lib.hid f6
    have F7 := Lib.hid f7
    have F8 := Lib.hid f8
    have F9 := Lib.hid f9
    have F10 := Lib.hid f10
    have F11 := Lib.hid f11
    have F12 := Lib.hid f12
    have HW := Lib.hid hw
    clear hw f0 f1 f2 f3 f4 f5 f6 f7 f8 f9 f10 f11 f12
    have hm' : (m : Int) < 4 := by omega
    go_simp
    refine hK.out _ _ ?_
    exact ⟨_, _, _, _, _, _, _, _, _, _, _, _, rfl, HW.out, fun hk => (F0.out ((upd_ne (by decide)).symm.trans hk)), fun hk => (F1.out ((upd_ne (by decide)).symm.trans hk)), fun hk => (F2.out ((upd_ne (by decide)).symm.trans hk)), fun hk => (F3.out ((upd_ne (by decide)).symm.trans hk)), fun hk => (F4.out ((upd_ne (by decide)).symm.trans hk)), fun hk => (F5.out ((upd_ne (by decide)).symm.trans hk)), fun hk => (F6.out ((upd_ne (by decide)).symm.trans hk)), fun hk => (F7.out ((upd_ne (by decide)).symm.trans hk)), fun _ => ⟨b, m, hm, rfl, hb, hB⟩, fun hk => (F9.out ((upd_ne (by decide)).symm.trans hk)), fun hk => (F10.out ((upd_ne (by decide)).symm.trans hk)), fun hk => (F11.out ((upd_ne (by decide)).symm.trans hk)), fun hk => (F12.out ((upd_ne (by decide)).symm.trans hk))⟩
  · rintro L A x ⟨v3, v4, v5, v6, v7, v8, v9, v10, v11, v12, v13, v14, rfl, hw, f0, f1, f2, f3, f4, f5, f6, f7, f8, f9, f10, f11, f12⟩ hL hdep K hK
    simp at hdep
    obtain ⟨b, m, hm, rfl, hb, hB⟩ := f8 hdep
    obtain ⟨z, hz, hc⟩ : ∃ z : Int, okN z = true ∧ x.cell? ⟨b, m, none⟩ = some (.int .i64 z) := by
      rcases (by omega : m = 0 ∨ m = 1 ∨ m = 2 ∨ m = 3) with rfl | rfl | rfl | rfl
      · exact ⟨0, rfl, hB.cell _ _ rfl⟩
      · exact ⟨0, rfl, hB.cell _ _ rfl⟩
      · exact ⟨3, rfl, hB.cell _ _ rfl⟩
      · exact ⟨1, rfl, hB.cell _ _ rfl⟩
    have F0 := Lib.hid f0
    have F1 := Lib.hid f1
    have F2 := Lib.hid f2
    have F3 := Lib.hid f3
    have F4 := Lib.hid f4
    have F5 := Lib.hid f5
    have F6 := Lib.hid f6
    have F7 := Lib.hid f7
    have F8 := Lib.hid f8
    have F9 := Lib.hid f9
    have F10 := Lib.hid f10
    have F11 := Lib.hid f11
    have F12 := Lib.hid f12
    have HW := Lib.hid hw
    clear hw f0 f1 f2 f3 f4 f5 f6 f7 f8 f9 f10 f11 f12
    go_simp
    refine hK.out _ _ ?_
    exact ⟨_, _, _, _, _, _, _, _, _, _, _, _, rfl, HW.out, fun hk => (F0.out ((upd_ne (by decide)).symm.trans hk)), fun hk => (F1.out ((upd_ne (by decide)).symm.trans hk)), fun hk => (F2.out ((upd_ne (by decide)).symm.trans hk)), fun hk => (F3.out ((upd_ne (by decide)).symm.trans hk)), fun hk => (F4.out ((upd_ne (by decide)).symm.trans hk)), fun hk => (F5.out ((upd_ne (by decide)).symm.trans hk)), fun hk => (F6.out ((upd_ne (by decide)).symm.trans hk)), fun hk => (F7.out ((upd_ne (by decide)).symm.trans hk)), fun hk => (F8.out ((upd_ne (by decide)).symm.trans hk)), fun _ => ⟨z, hz, rfl⟩, fun hk => (F10.out ((upd_ne (by decide)).symm.trans hk)), fun hk => (F11.out ((upd_ne (by decide)).symm.trans hk)), fun hk => (F12.out ((upd_ne (by decide)).symm.trans hk))⟩
  · rintro L A x ⟨v3, v4, v5, v6, v7, v8, v9, v10, v11, v12, v13, v14, rfl, hw, f0, f1, f2, f3, f4, f5, f6, f7, f8, f9, f10, f11, f12⟩ hL hdep K hK
    simp at hdep
    obtain ⟨s, hs, rfl⟩ := f4 hdep.1
    obtain ⟨v, hv, rfl⟩ := f9 hdep.2
    have F0 := Lib.hid f0
    have F1 := Lib.hid f1
    have F2 := Lib.hid f2
    have F3 := Lib.hid f3
    have F4 := Lib.hid f4
    have F5 := Lib.hid f5
    have F6 := Lib.hid f6
    have F7 := Lib.hid f7
    have F8 := Lib.hid f8
    have F9 := Lib.hid f9
    have F10 := Lib.hid f10
    have F11 := Lib.hid f11
    have F12 := Lib.hid f12
    have HW := Lib.hid hw
    clear hw f0 f1 f2 f3 f4 f5 f6 f7 f8 f9 f10 f11 f12
    go_simp
    refine hK.out _ _ ?_
    exact ⟨_, _, _, _, _, _, _, _, _, _, _, _, rfl, HW.out, fun hk => (F0.out ((upd_ne (by decide)).symm.trans hk)), fun hk => (F1.out ((upd_ne (by decide)).symm.trans hk)), fun hk => (F2.out ((upd_ne (by decide)).symm.trans hk)), fun hk => (F3.out ((upd_ne (by decide)).symm.trans hk)), fun hk => (F4.out ((upd_ne (by decide)).symm.trans hk)), fun hk => (F5.out ((upd_ne (by decide)).symm.trans hk)), fun hk => (F6.out ((upd_ne (by decide)).symm.trans hk)), fun hk => (F7.out ((upd_ne (by decide)).symm.trans hk)), fun hk => (F8.out ((upd_ne (by decide)).symm.trans hk)), fun hk => (F9.out ((upd_ne (by decide)).symm.trans hk)), fun _ => ⟨s, v, hs, hv, rfl⟩, fun hk => (F11.out ((upd_ne (by decide)).symm.trans hk)), fun hk => (F12.out ((upd_ne (by decide)).symm.trans hk))⟩
  · rintro L A x ⟨v3, v4, v5, v6, v7, v8, v9, v10, v11, v12, v13, v14, rfl, hw, f0, f1, f2, f3, f4, f5, f6, f7, f8, f9, f10, f11, f12⟩ hL hdep K hK
    clear hdep
    have F0 := Lib.hid f0
    have F1 := Lib.hid f1
    have F2 := Lib.hid f2
    have F3 := Lib.hid f3
    have F4 := Lib.hid f4
    have F5 := Lib.hid f5
    have F6 := Lib.hid f6
    have F7 := Lib.hid f7
    have F8 := Lib.hid f8
    have F9 := Lib.hid f9
    have F10 := Lib.hid f10
    have F11 := Lib.hid f11
    have F12 := Lib.hid f12
    have HW := Lib.hid hw
    clear hw f0 f1 f2 f3 f4 f5 f6 f7 f8 f9 f10 f11 f12
    go_simp
    refine hK.out _ _ ?_
    obtain ⟨g1, g2, g3, g4, g5⟩ := HW.out
    have kp : ∀ (o : Obj) b T vs, w.heap.size < b → Box x b T vs → Box (x.alloc o) b T vs := fun o b T vs _ h => h.past o
    have hw' : ∀ o : Obj, I1W r a len cap zs p w (upd L 11) (x.alloc o) := fun o => ⟨g1.alloc o, by simp; omega, g3.past o, g4.past o, fun _ => upd_self L 11⟩
    exact ⟨_, _, _, _, _, _, _, _, _, _, _, _, rfl, hw' _, fun hk => I1F0.keep (fun b vs => kp _ b _ vs) (F0.out ((upd_ne (by decide)).symm.trans hk)), fun hk => (F1.out ((upd_ne (by decide)).symm.trans hk)), fun hk => (F2.out ((upd_ne (by decide)).symm.trans hk)), fun hk => I1F3.keep (fun b vs => kp _ b _ vs) (F3.out ((upd_ne (by decide)).symm.trans hk)), fun hk => (F4.out ((upd_ne (by decide)).symm.trans hk)), fun hk => I1F5.keep (fun b vs => kp _ b _ vs) (F5.out ((upd_ne (by decide)).symm.trans hk)), fun hk => (F6.out ((upd_ne (by decide)).symm.trans hk)), fun hk => (F7.out ((upd_ne (by decide)).symm.trans hk)), fun hk => I1F8.keep (fun b vs => kp _ b _ vs) (F8.out ((upd_ne (by decide)).symm.trans hk)), fun hk => (F9.out ((upd_ne (by decide)).symm.trans hk)), fun hk => (F10.out ((upd_ne (by decide)).symm.trans hk)), fun _ => ⟨_, 0, 0, rfl, g2, Box.fresh _ _ _⟩, fun hk => absurd (hL.symm.trans (HW.out.2.2.2.2 ((upd_ne (by decide)).symm.trans hk))) (by decide)⟩
  · rintro L A x ⟨v3, v4, v5, v6, v7, v8, v9, v10, v11, v12, v13, v14, rfl, hw, f0, f1, f2, f3, f4, f5, f6, f7, f8, f9, f10, f11, f12⟩ hL hdep K hK
    simp at hdep
    obtain ⟨b, s0, v0, rfl, hb, hB⟩ := f11 hdep.1
    obtain ⟨s, v, hs, hv, rfl⟩ := f10 hdep.2.1
    have c0 := hB.cell 0 _ rfl
    have c1 := hB.cell 1 _ rfl
    have t0 := hB.thaw 0
    have t1 := hB.thaw 1
    have HD := Lib.hid hdep.1
    clear hdep
    have F0 := Lib.hid f0
    have F1 := Lib.hid f1
    have F2 := Lib.hid f2
    have F3 := Lib.hid f3
    have F4 := Lib.hid f4
    have F5 := Lib.hid f5
    have F6 := Lib.hid f6
    have F7 := Lib.hid f7
    have F8 := Lib.hid f8
    have F9 := Lib.hid f9
    have F10 := Lib.hid f10
    have F11 := Lib.hid f11
    have F12 := Lib.hid f12
    have HW := Lib.hid hw
    clear hw f0 f1 f2 f3 f4 f5 f6 f7 f8 f9 f10 f11 f12
    go_simp
    refine hK.out _ _ ?_
    obtain ⟨g1, g2, g3, g4, g5⟩ := HW.out
    have hr := hR.lt
    have kp : ∀ b' vs, w.heap.size < b' → Box x b' 3 vs → Box ((x.setCell ⟨b, 0, none⟩ (.int .i64 s)).setCell ⟨b, 1, none⟩ (.int .i64 v)) b' 3 vs := fun b' vs _ h =>
      (h.other (p := ⟨b, 0, none⟩) (h.ne hB (by decide)) _).other (p := ⟨b, 1, none⟩) (h.ne hB (by decide)) _
    have hc : ∀ b' o, a = some ⟨b', o, none⟩ → 0 < len → b' ≠ b := fun b' o e h0 => by have := Rd.code hR b' o e h0; omega
    have hw' : I1W r a len cap zs p w (upd L 12) ((x.setCell ⟨b, 0, none⟩ (.int .i64 s)).setCell ⟨b, 1, none⟩ (.int .i64 v)) :=
      ⟨(g1.put (.inr (Nat.le_of_lt hb)) _).put (.inr (Nat.le_of_lt hb)) _, by simpa [World.setCell] using g2, (g3.other (p := ⟨b, 0, none⟩) (by show _ ≠ b; omega) _).other (p := ⟨b, 1, none⟩) (by show _ ≠ b; omega) _,
        (g4.other (q := ⟨b, 0, none⟩) _ (by show b ≠ r; omega) hc).other (q := ⟨b, 1, none⟩) _ (by show b ≠ r; omega) hc, fun _ => HD.out⟩
    have hB' := (hB.put 0 (.int .i64 s)).put 1 (.int .i64 v)
    exact ⟨_, _, _, _, _, _, _, _, _, _, _, _, rfl, hw', fun hk => I1F0.keep kp (F0.out ((upd_ne (by decide)).symm.trans hk)), fun hk => (F1.out ((upd_ne (by decide)).symm.trans hk)), fun hk => (F2.out ((upd_ne (by decide)).symm.trans hk)), fun hk => I1F3.keep kp (F3.out ((upd_ne (by decide)).symm.trans hk)), fun hk => (F4.out ((upd_ne (by decide)).symm.trans hk)), fun hk => I1F5.keep kp (F5.out ((upd_ne (by decide)).symm.trans hk)), fun hk => (F6.out ((upd_ne (by decide)).symm.trans hk)), fun hk => (F7.out ((upd_ne (by decide)).symm.trans hk)), fun hk => I1F8.keep kp (F8.out ((upd_ne (by decide)).symm.trans hk)), fun hk => (F9.out ((upd_ne (by decide)).symm.trans hk)), fun hk => (F10.out ((upd_ne (by decide)).symm.trans hk)), fun hk => ⟨b, s, v, rfl, hb, hB'⟩, fun _ => ⟨b, s, v, hs, hv, rfl, hb, hB'⟩⟩
  · rintro L A x ⟨v3, v4, v5, v6, v7, v8, v9, v10, v11, v12, v13, v14, rfl, ⟨g1, g2, g3, g4, _⟩, f0, f1, f2, f3, f4, f5, f6, f7, f8, f9, f10, f11, f12⟩ hall
    obtain ⟨b, s, v, hs, hv, rfl, hb, hB⟩ := f12 (hall 12 (by decide))
    rw [hall 2 (by decide), hall 7 (by decide)] at g4
    simp only [if_true] at g4
    clear f0 f1 f2 f3 f4 f5 f6 f7 f8 f9 f10 f11 f12 hall
    have hr := hR.lt
    have G4 := Lib.hid g4
    have GB := Lib.hid hB
    have G3 := Lib.hid g3
    have HR := Lib.hid hR
    clear g4 hB g3 hR
    go_wp2_with fail
    refine (pick_any r a len cap zs _ 60 _ G4.out (by omega) (by omega) (by omega)).mono ?_
    rintro e y ⟨z, z0, z1, rfl, q1, q2, q3⟩
    have hBy := GB.out.grew q2 (by omega)
    have h3y := G3.out.grew q2 (by omega)
    have hgy := g1.trans q2
    clear G4 GB G3 q3
    by_cases hz : z = 0
    · subst hz
      have Q1 := Lib.hid q1
      have HB := Lib.hid hBy
      have H3 := Lib.hid h3y
      clear q1 hBy h3y
      go_wp2_with fail
      refine (pick_any r a len cap zs _ 2 _ (Q1.out.past _) (by omega) (by omega) (by omega)).mono ?_
      rintro e u ⟨m, m0, m1, rfl, r1, r2, r3⟩
      have hby := HB.out.lt
      have h3y := H3.out.lt
      have hBu := (HB.out.past (.cells #[.int .i64 (-1), .int .i64 4] 3)).grew r2 (by omega)
      have h3u := (H3.out.past (.cells #[.int .i64 (-1), .int .i64 4] 3)).grew r2 (by omega)
      have hsu := (Box.fresh y 3 #[.int .i64 (-1), .int .i64 4]).grew r2 (by omega)
      have hgu := (hgy.alloc (.cells #[.int .i64 (-1), .int .i64 4] 3)).trans r2
      obtain ⟨t, ht, hct⟩ : ∃ t : Int, (-1 ≤ t ∧ t ≤ 4) ∧ u.cell? ⟨y.heap.size, m.toNat, none⟩ = some (.int .i64 t) := by
        rcases (by omega : m = 0 ∨ m = 1) with rfl | rfl
        · exact ⟨-1, by omega, hsu.cell _ _ rfl⟩
        · exact ⟨4, by omega, hsu.cell _ _ rfl⟩
      have k0 := hBu.cell 0 _ rfl
      have k1 := hBu.cell 1 _ rfl
      have l0 := hBu.thaw 0
      have j0 := h3u.cell 0 _ rfl
      have j1 := h3u.cell 1 _ rfl
      have i0 := h3u.thaw 0
      have i1 := h3u.thaw 1
      have hne : w.heap.size ≠ b := by omega
      have hne2 : b ≠ w.heap.size := by omega
      have HBu := Lib.hid hBu
      have H3u := Lib.hid h3u
      have HQ := Lib.hid r1
      have HS := Lib.hid hsu
      clear hBu h3u r1 hsu HB H3 Q1
      clear r3
      go_wp2_with fail
      refine bodyPost_ret (v := lab t v) (by simp [results, Tryd.results65, go_sem, *]) rfl ?_
      have hc : ∀ b' o, a = some ⟨b', o, none⟩ → 0 < len → b' ≠ b := fun b' o e h0 => by have := Rd.code HR.out b' o e h0; omega
      have hc2 : ∀ b' o, a = some ⟨b', o, none⟩ → 0 < len → b' ≠ w.heap.size := fun b' o e h0 => by have := Rd.code HR.out b' o e h0; omega
      exact ⟨t, v, ht.1, ht.2, hv, rfl, _, by omega, ((HQ.out.other (q := ⟨b, 0, none⟩) _ (by show b ≠ r; omega) hc).other (q := ⟨w.heap.size, 0, none⟩) _ (by show w.heap.size ≠ r; omega) hc2).other (q := ⟨w.heap.size, 1, none⟩) _ (by show w.heap.size ≠ r; omega) hc2,
        ((hgu.put (p := ⟨b, 0, none⟩) (.inr (Nat.le_of_lt hb)) _).put (p := ⟨w.heap.size, 0, none⟩) (.inr (Nat.le_refl _)) _).put (p := ⟨w.heap.size, 1, none⟩) (.inr (Nat.le_refl _)) _⟩
    · have hzb : (z == 0) = false := by simpa using hz
      have k0 := hBy.cell 0 _ rfl
      have k1 := hBy.cell 1 _ rfl
      have j0 := h3y.cell 0 _ rfl
      have j1 := h3y.cell 1 _ rfl
      have i0 := h3y.thaw 0
      have i1 := h3y.thaw 1
      have HB := Lib.hid hBy
      have H3 := Lib.hid h3y
      have HQ := Lib.hid q1
      clear hBy h3y q1
      go_wp2_with fail
      refine bodyPost_ret (v := lab s v) (by simp [results, Tryd.results65, go_sem, *]) rfl ?_
      have hc2 : ∀ b' o, a = some ⟨b', o, none⟩ → 0 < len → b' ≠ w.heap.size := fun b' o e h0 => by have := Rd.code HR.out b' o e h0; omega
      have hsb := okN_bd hs
      exact ⟨s, v, by omega, by omega, hv, rfl, _, by omega, (HQ.out.other (q := ⟨w.heap.size, 0, none⟩) _ (by show w.heap.size ≠ r; omega) hc2).other (q := ⟨w.heap.size, 1, none⟩) _ (by show w.heap.size ≠ r; omega) hc2,
        (hgy.put (p := ⟨w.heap.size, 0, none⟩) (.inr (Nat.le_refl _)) _).put (p := ⟨w.heap.size, 1, none⟩) (.inr (Nat.le_refl _)) _⟩
end Go.Proofs.YtpahahonopiblaaDoor
