/-
  The text of a thing: the program's.
-/
import Derived.Test.YtpahahonopiblaaDoorTxtI
import Derived.Test.YtpahahonopiblaaDoorTxtT
import Derived.Test.YtpahahonopiblaaDoorIterK
import Derived.Test.YtpahahonopiblaaDoorRigM
import Derived.Test.YtpahahonopiblaaDoorInvF
import Derived.Sort.CutIn
namespace Go.Proofs.YtpahahonopiblaaDoor
open Go.RowKit Go.Shelf
set_option linter.unusedVariables false
set_option maxRecDepth 100000
attribute [local go_sem] Oper.semAt_some

theorem Kn.lt1 {w y : World} {T : TypeId} {vs : Array Value} (h : Kn w [(w.heap.size, T, vs)] y) : w.heap.size < y.heap.size := (h.box (b := w.heap.size) (T := T) (vs := vs) (by simp)).lt
theorem kfName {w : World} (h : KF w) {k : Nat} (h1 : 1 ≤ k) (h5 : k ≤ 5) : w.cell? ⟨0, k * 11, none⟩ = some (.string (B (nameL (k : Int)))) := by
  have := h k (by omega) 0 _ rfl
  rw [Nat.add_zero] at this
  rw [this]
  rcases (by omega : k = 1 ∨ k = 2 ∨ k = 3 ∨ k = 4 ∨ k = 5) with rfl | rfl | rfl | rfl | rfl <;> rfl
theorem own_str (b : Nat) (T : TypeId) (f : List R5 → Array Value) : Own (fun pre W => Box W b T (f pre)) := fun pre W W' row hs hg hr => box_own (β := Unit) b T (f pre) () W W' row hs hg hr
theorem txtR_len (r : R5) : (txtR r.t r.v r.r r.w r.k).size ≤ 6 := by rw [txtR_B, B_size]; exact rgtL_len r
theorem rts_ok {x : T8} (h : okT x = true) : rts [x] = x.slots := by
  have h3 : okT3 x = true := by simp only [okT, Bool.and_eq_true] at h; exact h.2.2.2.2.1
  unfold okT3 at h3
  simp only [rts, List.flatMap_cons, List.flatMap_nil, List.append_nil, rtsX]
  split at h3
  · rw [if_pos (by have : (x.slots.length : Int) = 4 := by simpa using h3
                   omega)]
  · have : x.slots.length = 0 := by have : (x.slots.length : Int) = 0 := by simpa using h3
                                    omega
    rw [if_neg (by omega)]
    exact (List.length_eq_zero_iff.1 this).symm
theorem upd_mono {L : Nat → Bool} {i k : Nat} (h : L k = true) : upd L i k = true := by unfold upd; split; rfl; exact h
def TP1W (w : World) (x : T8) (s q : Sl) (kd : Nat) (S1 S2 S3 S4 : ByteArray) (y : World) : Prop := Kn w [(w.heap.size, 37, x.cs s q)] y
def TP1 (w : World) (x : T8) (s q : Sl) (kd : Nat) (S1 S2 S3 S4 : ByteArray) (L : Nat → Bool) (A : Act) (y : World) : Prop := ∃ v3 v7 v8 v9 v10 v11 v12 v13 v14 v15 v16 v17 v18 v19 v20 v21 v22 v23 v24 v25 v26 : Value, A = { tmps := #[x.val s q, .pointer (some ⟨w.heap.size, 0, none⟩), .string ⟨#[]⟩, v3, undef, undef, undef, v7, v8, v9, v10, v11, v12, v13, v14, v15, v16, v17, v18, v19, v20, v21, v22, v23, v24, v25, v26, undef, undef, undef, undef, undef, undef, undef, undef, undef, undef, undef, undef, undef, undef, undef, undef, undef, undef, undef, undef, undef, undef, undef, undef, undef, undef, undef, undef, undef, undef, undef, undef], defers := [] } ∧ TP1W w x s q kd S1 S2 S3 S4 y ∧ (L 0 = true → v7 = .pointer (some ⟨w.heap.size, 0, none⟩)) ∧ (L 1 = true → v8 = .int .i64 (kd : Int)) ∧ (L 2 = true → v9 = .pointer (some ⟨0, kd * 11, none⟩)) ∧ (L 3 = true → v10 = .pointer (some ⟨0, kd * 11, none⟩)) ∧ (L 4 = true → v11 = .string (S1)) ∧ (L 5 = true → v12 = .string (S1 ++ ⟨#[32]⟩)) ∧ (L 6 = true → v13 = .pointer (some ⟨w.heap.size, 1, none⟩)) ∧ (L 7 = true → v14 = lab x.sec x.vou) ∧ (L 8 = true → v15 = .string S2) ∧ (L 9 = true → v16 = .string (S1 ++ ⟨#[32]⟩ ++ S2)) ∧ (L 10 = true → v17 = .string (S1 ++ ⟨#[32]⟩ ++ S2 ++ ⟨#[32]⟩)) ∧ (L 11 = true → v18 = .pointer (some ⟨w.heap.size, 3, none⟩)) ∧ (L 12 = true → v19 = .int .i64 x.vers) ∧ (L 13 = true → v20 = .string S3) ∧ (L 14 = true → v21 = .string (S1 ++ ⟨#[32]⟩ ++ S2 ++ ⟨#[32]⟩ ++ S3)) ∧ (L 15 = true → v22 = .string (S1 ++ ⟨#[32]⟩ ++ S2 ++ ⟨#[32]⟩ ++ S3 ++ ⟨#[32]⟩)) ∧ (L 16 = true → v23 = .pointer (some ⟨w.heap.size, 4, none⟩)) ∧ (L 17 = true → v24 = .int .i64 x.num) ∧ (L 18 = true → v25 = .string S4) ∧ (L 19 = true → v26 = .string (S1 ++ ⟨#[32]⟩ ++ S2 ++ ⟨#[32]⟩ ++ S3 ++ ⟨#[32]⟩ ++ S4)) ∧ (L 20 = true → ∃ b, v3 = .pointer (some ⟨b, 0, none⟩) ∧ w.heap.size < b ∧ ∃ c, Box y b 9 #[c]) ∧ (L 21 = true → (L 20 = true ∧ ∃ b, v3 = .pointer (some ⟨b, 0, none⟩) ∧ w.heap.size < b ∧ Box y b 9 #[.string (S1 ++ ⟨#[32]⟩ ++ S2 ++ ⟨#[32]⟩ ++ S3 ++ ⟨#[32]⟩ ++ S4)]))
def TP8W (w X wr : World) (x : T8) (s q : Sl) (b D : Nat) (pr tr : ByteArray) (v7 v8 v9 v10 v11 v12 v13 v14 v15 v16 v17 v18 v19 v20 v21 v22 v23 v24 v25 v26 : Value) (g o k : Nat) (r : Int) (L : Nat → Bool) (y : World) : Prop := L 5 = false → Below wr.heap.size wr y
def TP8 (w X wr : World) (x : T8) (s q : Sl) (b D : Nat) (pr tr : ByteArray) (v7 v8 v9 v10 v11 v12 v13 v14 v15 v16 v17 v18 v19 v20 v21 v22 v23 v24 v25 v26 : Value) (g o k : Nat) (r : Int) (L : Nat → Bool) (A : Act) (y : World) : Prop := ∃ v43 v44 v45 v46 v47 v48 : Value, A = { tmps := #[x.val s q, .pointer (some ⟨w.heap.size, 0, none⟩), .string ⟨#[]⟩, .pointer (some ⟨b, 0, none⟩), undef, undef, .int .i64 r, v7, v8, v9, v10, v11, v12, v13, v14, v15, v16, v17, v18, v19, v20, v21, v22, v23, v24, v25, v26, x.val s q, .slice (some ⟨X.heap.size, 0, none⟩) 1 1, .func (.func 100) #[] #[.pointer (some ⟨X.heap.size + 1, 0, none⟩)], undef, undef, undef, undef, undef, undef, .pointer (some ⟨w.heap.size, 6, none⟩), .slice q.a x.queue.length q.c, .int .i64 (x.queue.length : Int), .int .i64 (k : Int), .bool true, .pointer (some ⟨g, o + k, none⟩), .int .i64 r, v43, v44, v45, v46, v47, v48, undef, undef, undef, undef, undef, undef, undef, undef, undef, undef], defers := [{ target := .collected D, args := #[] }] } ∧ TP8W w X wr x s q b D pr tr v7 v8 v9 v10 v11 v12 v13 v14 v15 v16 v17 v18 v19 v20 v21 v22 v23 v24 v25 v26 g o k r L y ∧ (L 0 = true → v43 = .string pr) ∧ (L 1 = true → v44 = .int .i64 r) ∧ (L 2 = true → v45 = .string tr) ∧ (L 3 = true → v46 = .string (⟨#[32, 60]⟩ ++ tr)) ∧ (L 4 = true → v47 = .string (pr ++ (⟨#[32, 60]⟩ ++ tr))) ∧ (L 5 = true → (L 0 = true ∧ L 2 = true ∧ ∃ z, Below wr.heap.size wr z ∧ y = z.setCell ⟨b, 0, none⟩ (.string (pr ++ (⟨#[32, 60]⟩ ++ tr)))))
def TP11W (w X wr : World) (x : T8) (s q : Sl) (b D : Nat) (pr tr : ByteArray) (v7 v8 v9 v10 v11 v12 v13 v14 v15 v16 v17 v18 v19 v20 v21 v22 v23 v24 v25 v26 : Value)  (L : Nat → Bool) (y : World) : Prop := L 6 = false → Below wr.heap.size wr y
def TP11 (w X wr : World) (x : T8) (s q : Sl) (b D : Nat) (pr tr : ByteArray) (v7 v8 v9 v10 v11 v12 v13 v14 v15 v16 v17 v18 v19 v20 v21 v22 v23 v24 v25 v26 : Value)  (L : Nat → Bool) (A : Act) (y : World) : Prop := ∃ v6 v7 v8 v9 v10 v11 v12 v13 v14 v15 v16 v17 v18 v19 v20 v21 v22 v23 v24 v25 v26 v27 v28 v29 v36 v37 v38 v39 v40 v41 v42 v43 v44 v45 v46 v47 v48 v49 v50 v51 v52 v53 v54 v55 v56 v57 : Value, A = { tmps := #[x.val s q, .pointer (some ⟨w.heap.size, 0, none⟩), .string ⟨#[]⟩, .pointer (some ⟨b, 0, none⟩), undef, undef, v6, v7, v8, v9, v10, v11, v12, v13, v14, v15, v16, v17, v18, v19, v20, v21, v22, v23, v24, v25, v26, v27, v28, v29, undef, undef, undef, undef, undef, undef, v36, v37, v38, v39, v40, v41, v42, v43, v44, v45, v46, v47, v48, v49, v50, v51, v52, v53, v54, v55, v56, v57, undef], defers := [{ target := .collected D, args := #[] }] } ∧ TP11W w X wr x s q b D pr tr v7 v8 v9 v10 v11 v12 v13 v14 v15 v16 v17 v18 v19 v20 v21 v22 v23 v24 v25 v26  L y ∧ (L 0 = true → v52 = .string pr) ∧ (L 1 = true → v53 = .pointer (some ⟨w.heap.size, 7, none⟩)) ∧ (L 2 = true → v54 = .int .i64 x.to) ∧ (L 3 = true → v55 = .string tr) ∧ (L 4 = true → v56 = .string (⟨#[32, 62]⟩ ++ tr)) ∧ (L 5 = true → v57 = .string (pr ++ (⟨#[32, 62]⟩ ++ tr))) ∧ (L 6 = true → (L 0 = true ∧ L 2 = true ∧ L 3 = true ∧ ∃ z, Below wr.heap.size wr z ∧ y = z.setCell ⟨b, 0, none⟩ (.string (pr ++ (⟨#[32, 62]⟩ ++ tr)))))

set_option maxHeartbeats 8000000 in
theorem thingText_any (x : T8) (s q : Sl) (w : World) (hx : okT x = true) (hR : HasR w s x.slots) (hQ : HasQ w q x.queue) (hf : KF w) (htp : TP w) :
    Calls Tryd.prog 49 #[x.val s q] w fun e w' => ∃ t, e = .returned (.string (B t)) ∧ t ++ [10] = thingL x ∧ Below w.heap.size w w' := by
  refine (callsIn_wide (n := 9)).1 ?_
  obtain ⟨k1, k2, k3, k4, k5⟩ := okT_ranges hx
  have OL := Lib.hid (x_okT_lab hx)
  have OV := Lib.hid (show -9 ≤ x.vers ∧ x.vers ≤ 99 by omega)
  have ON := Lib.hid (show -9 ≤ x.num ∧ x.num ≤ 99 by omega)
  obtain ⟨kd, hkd, hk1, hk5⟩ : ∃ kd : Nat, x.kind = kd ∧ 1 ≤ kd ∧ kd ≤ 5 := ⟨x.kind.toNat, by rw [inR_iff] at k1; omega⟩
  obtain ⟨Y, hY⟩ : ∃ Y, w.alloc (.cells (x.cs s q) 37) = Y := ⟨_, rfl⟩
  have K0 := (Kn.refl (w := w)).new 37 (x.cs s q)
  rw [hY] at K0
  have hkd' : (kd : Int) < 6 := by omega
  have wk : IntKind.i64.wrap (kd : Int) = (kd : Int) := IntWalk.i64_in _ (by omega)
  obtain ⟨S1, hS1⟩ : ∃ S1, B (nameL (kd : Int)) = S1 := ⟨_, rfl⟩
  obtain ⟨S2, hS2⟩ : ∃ S2, txt x.sec x.vou = S2 := ⟨_, rfl⟩
  obtain ⟨S3, hS3⟩ : ∃ S3, B (decL x.vers) = S3 := ⟨_, rfl⟩
  obtain ⟨S4, hS4⟩ : ∃ S4, B (decL x.num) = S4 := ⟨_, rfl⟩
  have z1 : S1.size ≤ 4 := hS1 ▸ name_len _
  have z2 : S2.size ≤ 5 := hS2 ▸ txt_B OL.out ▸ lab_len _ _
  have z3 : S3.size ≤ 2 := hS3 ▸ dec_len _
  have z4 : S4.size ≤ 2 := hS4 ▸ dec_len _
  have y1 : ¬ 9223372036854775807 < S1.size + 1 := by omega
  have y2 : ¬ 9223372036854775807 < S1.size + 1 + S2.size := by omega
  have y3 : ¬ 9223372036854775807 < S1.size + 1 + S2.size + 1 := by omega
  have y4 : ¬ 9223372036854775807 < S1.size + 1 + S2.size + 1 + S3.size := by omega
  have y5 : ¬ 9223372036854775807 < S1.size + 1 + S2.size + 1 + S3.size + 1 := by omega
  have y6 : ¬ 9223372036854775807 < S1.size + 1 + S2.size + 1 + S3.size + 1 + S4.size := by omega
  have HE := Lib.hid (show S1 ++ ⟨#[32]⟩ ++ S2 ++ ⟨#[32]⟩ ++ S3 ++ ⟨#[32]⟩ ++ S4 = B (headL x) by
    rw [← hS1, ← hS2, ← hS3, ← hS4, txt_B OL.out, show (⟨#[32]⟩ : ByteArray) = B [32] from rfl]
    simp only [B_app, headL, hkd, List.append_assoc, List.cons_append, List.nil_append])
  have HKN := Lib.hid (show ∀ y, Below w.heap.size w y → y.cell? ⟨0, kd * 11, none⟩ = some (.string S1) from fun y h => hS1 ▸ kfName (hf.stay h) hk1 hk5)
  have G1 := Lib.hid (show ∀ y, Calls Tryd.prog 90 #[lab x.sec x.vou] y fun e w' => e = .returned (.string S2) ∧ Below y.heap.size y w' from fun y => hS2 ▸ implText_any x.sec x.vou y)
  have G2 := Lib.hid (show ∀ y, Below w.heap.size w y → Calls Tryd.prog 48 #[.int .i64 x.vers] y fun e w' => e = .returned (.string S3) ∧ Below y.heap.size y w' from fun y h => itoa_val hS3 y (htp.stay h) OV.out)
  have G3 := Lib.hid (show ∀ y, Below w.heap.size w y → Calls Tryd.prog 48 #[.int .i64 x.num] y fun e w' => e = .returned (.string S4) ∧ Below y.heap.size y w' from fun y h => itoa_val hS4 y (htp.stay h) ON.out)
  have HR := Lib.hid hR
  have HQ := Lib.hid hQ
  have HX := Lib.hid hx
  have HK0 := Lib.hid K0
  have HTP := Lib.hid htp
  clear K0 hS1 hS2 hS3 hS4 z1 z2 z3 z4 k1 k2 k3 k4 k5 OV ON hk1 hk5 hR hQ hx hf htp
  refine callsIn_of_wp_marks Tryd.func49 rfl trivial ?_ rfl
  simp only [Tryd.ntmps49, List.size_toArray, List.length_cons, List.length_nil, Nat.reduceAdd, Nat.reduceSub, Array.replicate_succ, Array.replicate_zero, List.push_toArray, List.append_toArray, List.nil_append, List.cons_append]
  gi_wp2_with fail
  refine wpIn_region_steps (by kernel_rfl) (by kernel_rfl) (by kernel_rfl) (TP1 w x s q kd S1 S2 S3 S4) ?_ ⟨?_, ?_, ?_, ?_, ?_, ?_, ?_, ?_, ?_, ?_, ?_, ?_, ?_, ?_, ?_, ?_, ?_, ?_, ?_, ?_, ?_, ?_, trivial⟩ ?_
  · exact ⟨_, _, _, _, _, _, _, _, _, _, _, _, _, _, _, _, _, _, _, _, _, rfl, Kn.drew HK0.out, fun h => absurd h (by decide), fun h => absurd h (by decide), fun h => absurd h (by decide), fun h => absurd h (by decide), fun h => absurd h (by decide), fun h => absurd h (by decide), fun h => absurd h (by decide), fun h => absurd h (by decide), fun h => absurd h (by decide), fun h => absurd h (by decide), fun h => absurd h (by decide), fun h => absurd h (by decide), fun h => absurd h (by decide), fun h => absurd h (by decide), fun h => absurd h (by decide), fun h => absurd h (by decide), fun h => absurd h (by decide), fun h => absurd h (by decide), fun h => absurd h (by decide), fun h => absurd h (by decide), fun h => absurd h (by decide), fun h => absurd h (by decide)⟩
  · rintro L A X ⟨v3, v7, v8, v9, v10, v11, v12, v13, v14, v15, v16, v17, v18, v19, v20, v21, v22, v23, v24, v25, v26, rfl, hw, f0, f1, f2, f3, f4, f5, f6, f7, f8, f9, f10, f11, f12, f13, f14, f15, f16, f17, f18, f19, f20, f21⟩ hL hdep K hK
    clear hdep
    have F0 := Lib.hid f0
    have F1 := Lib.hid f1
    have F2 := Lib.hid f2
    have F3 := Lib.hid f3
    have F4 := Lib.hid f4
    have F5 := Lib.hid f5
    have F6 := Lib.hid f6
    have F7 := Lib.hid f7
    have F8 := Lib.hid f8
    have F9 := Lib.hid f9
    have F10 := Lib.hid f10
    have F11 := Lib.hid f11
    have F12 := Lib.hid f12
    have F13 := Lib.hid f13
    have F14 := Lib.hid f14
    have F15 := Lib.hid f15
    have F16 := Lib.hid f16
    have F17 := Lib.hid f17
    have F18 := Lib.hid f18
    have F19 := Lib.hid f19
    have F20 := Lib.hid f20
    have F21 := Lib.hid f21
    have HW := Lib.hid hw
    clear hw f0 f1 f2 f3 f4 f5 f6 f7 f8 f9 f10 f11 f12 f13 f14 f15 f16 f17 f18 f19 f20 f21
    go_simp
    refine hK.out _ _ ?_
    exact ⟨_, _, _, _, _, _, _, _, _, _, _, _, _, _, _, _, _, _, _, _, _, rfl, HW.out, fun _ => rfl, fun hk => (F1.out ((upd_ne (by decide)).symm.trans hk)), fun hk => (F2.out ((upd_ne (by decide)).symm.trans hk)), fun hk => (F3.out ((upd_ne (by decide)).symm.trans hk)), fun hk => (F4.out ((upd_ne (by decide)).symm.trans hk)), fun hk => (F5.out ((upd_ne (by decide)).symm.trans hk)), fun hk => (F6.out ((upd_ne (by decide)).symm.trans hk)), fun hk => (F7.out ((upd_ne (by decide)).symm.trans hk)), fun hk => (F8.out ((upd_ne (by decide)).symm.trans hk)), fun hk => (F9.out ((upd_ne (by decide)).symm.trans hk)), fun hk => (F10.out ((upd_ne (by decide)).symm.trans hk)), fun hk => (F11.out ((upd_ne (by decide)).symm.trans hk)), fun hk => (F12.out ((upd_ne (by decide)).symm.trans hk)), fun hk => (F13.out ((upd_ne (by decide)).symm.trans hk)), fun hk => (F14.out ((upd_ne (by decide)).symm.trans hk)), fun hk => (F15.out ((upd_ne (by decide)).symm.trans hk)), fun hk => (F16.out ((upd_ne (by decide)).symm.trans hk)), fun hk => (F17.out ((upd_ne (by decide)).symm.trans hk)), fun hk => (F18.out ((upd_ne (by decide)).symm.trans hk)), fun hk => (F19.out ((upd_ne (by decide)).symm.trans hk)), fun hk => (F20.out ((upd_ne (by decide)).symm.trans hk)), fun hk => (let ⟨h20, b, e, hl, hB⟩ := (F21.out ((upd_ne (by decide)).symm.trans hk)); ⟨(upd_ne (by decide)).trans h20, b, e, hl, hB⟩)⟩
  · rintro L A X ⟨v3, v7, v8, v9, v10, v11, v12, v13, v14, v15, v16, v17, v18, v19, v20, v21, v22, v23, v24, v25, v26, rfl, hw, f0, f1, f2, f3, f4, f5, f6, f7, f8, f9, f10, f11, f12, f13, f14, f15, f16, f17, f18, f19, f20, f21⟩ hL hdep K hK
    simp at hdep
    have d0 : L 0 = true := by first | exact hdep | exact hdep.1 | exact hdep.2 | exact hdep.2.1 | exact hdep.2.2 | exact hdep.2.2.1 | exact hdep.2.2.2
    have e0 := (f0 d0); subst e0
    clear hdep
    have c : X.cell? ⟨w.heap.size, 0, none⟩ = some (.int .i64 (kd : Int)) := by rw [← hkd]; exact Kn.c hw (b := w.heap.size) (T := 37) (vs := x.cs s q) (by simp) 0 _ rfl
    have F0 := Lib.hid f0
    have F1 := Lib.hid f1
    have F2 := Lib.hid f2
    have F3 := Lib.hid f3
    have F4 := Lib.hid f4
    have F5 := Lib.hid f5
    have F6 := Lib.hid f6
    have F7 := Lib.hid f7
    have F8 := Lib.hid f8
    have F9 := Lib.hid f9
    have F10 := Lib.hid f10
    have F11 := Lib.hid f11
    have F12 := Lib.hid f12
    have F13 := Lib.hid f13
    have F14 := Lib.hid f14
    have F15 := Lib.hid f15
    have F16 := Lib.hid f16
    have F17 := Lib.hid f17
    have F18 := Lib.hid f18
    have F19 := Lib.hid f19
    have F20 := Lib.hid f20
    have F21 := Lib.hid f21
    have HW := Lib.hid hw
    clear hw f0 f1 f2 f3 f4 f5 f6 f7 f8 f9 f10 f11 f12 f13 f14 f15 f16 f17 f18 f19 f20 f21
    go_simp
    refine hK.out _ _ ?_
    exact ⟨_, _, _, _, _, _, _, _, _, _, _, _, _, _, _, _, _, _, _, _, _, rfl, HW.out, fun _ => rfl, fun _ => rfl, fun hk => (F2.out ((upd_ne (by decide)).symm.trans hk)), fun hk => (F3.out ((upd_ne (by decide)).symm.trans hk)), fun hk => (F4.out ((upd_ne (by decide)).symm.trans hk)), fun hk => (F5.out ((upd_ne (by decide)).symm.trans hk)), fun hk => (F6.out ((upd_ne (by decide)).symm.trans hk)), fun hk => (F7.out ((upd_ne (by decide)).symm.trans hk)), fun hk => (F8.out ((upd_ne (by decide)).symm.trans hk)), fun hk => (F9.out ((upd_ne (by decide)).symm.trans hk)), fun hk => (F10.out ((upd_ne (by decide)).symm.trans hk)), fun hk => (F11.out ((upd_ne (by decide)).symm.trans hk)), fun hk => (F12.out ((upd_ne (by decide)).symm.trans hk)), fun hk => (F13.out ((upd_ne (by decide)).symm.trans hk)), fun hk => (F14.out ((upd_ne (by decide)).symm.trans hk)), fun hk => (F15.out ((upd_ne (by decide)).symm.trans hk)), fun hk => (F16.out ((upd_ne (by decide)).symm.trans hk)), fun hk => (F17.out ((upd_ne (by decide)).symm.trans hk)), fun hk => (F18.out ((upd_ne (by decide)).symm.trans hk)), fun hk => (F19.out ((upd_ne (by decide)).symm.trans hk)), fun hk => (F20.out ((upd_ne (by decide)).symm.trans hk)), fun hk => (let ⟨h20, b, e, hl, hB⟩ := (F21.out ((upd_ne (by decide)).symm.trans hk)); ⟨(upd_ne (by decide)).trans h20, b, e, hl, hB⟩)⟩
  · rintro L A X ⟨v3, v7, v8, v9, v10, v11, v12, v13, v14, v15, v16, v17, v18, v19, v20, v21, v22, v23, v24, v25, v26, rfl, hw, f0, f1, f2, f3, f4, f5, f6, f7, f8, f9, f10, f11, f12, f13, f14, f15, f16, f17, f18, f19, f20, f21⟩ hL hdep K hK
    simp at hdep
    have d1 : L 1 = true := by first | exact hdep | exact hdep.1 | exact hdep.2 | exact hdep.2.1 | exact hdep.2.2 | exact hdep.2.2.1 | exact hdep.2.2.2
    have e1 := (f1 d1); subst e1
    clear hdep
    have F0 := Lib.hid f0
    have F1 := Lib.hid f1
    have F2 := Lib.hid f2
    have F3 := Lib.hid f3
    have F4 := Lib.hid f4
    have F5 := Lib.hid f5
    have F6 := Lib.hid f6
    have F7 := Lib.hid f7
    have F8 := Lib.hid f8
    have F9 := Lib.hid f9
    have F10 := Lib.hid f10
    have F11 := Lib.hid f11
    have F12 := Lib.hid f12
    have F13 := Lib.hid f13
    have F14 := Lib.hid f14
    have F15 := Lib.hid f15
    have F16 := Lib.hid f16
    have F17 := Lib.hid f17
    have F18 := Lib.hid f18
    have F19 := Lib.hid f19
    have F20 := Lib.hid f20
    have F21 := Lib.hid f21
    have HW := Lib.hid hw
    clear hw f0 f1 f2 f3 f4 f5 f6 f7 f8 f9 f10 f11 f12 f13 f14 f15 f16 f17 f18 f19 f20 f21
    go_simp
    refine hK.out _ _ ?_
    exact ⟨_, _, _, _, _, _, _, _, _, _, _, _, _, _, _, _, _, _, _, _, _, rfl, HW.out, fun hk => (F0.out ((upd_ne (by decide)).symm.trans hk)), fun _ => rfl, fun _ => rfl, fun hk => (F3.out ((upd_ne (by decide)).symm.trans hk)), fun hk => (F4.out ((upd_ne (by decide)).symm.trans hk)), fun hk => (F5.out ((upd_ne (by decide)).symm.trans hk)), fun hk => (F6.out ((upd_ne (by decide)).symm.trans hk)), fun hk => (F7.out ((upd_ne (by decide)).symm.trans hk)), fun hk => (F8.out ((upd_ne (by decide)).symm.trans hk)), fun hk => (F9.out ((upd_ne (by decide)).symm.trans hk)), fun hk => (F10.out ((upd_ne (by decide)).symm.trans hk)), fun hk => (F11.out ((upd_ne (by decide)).symm.trans hk)), fun hk => (F12.out ((upd_ne (by decide)).symm.trans hk)), fun hk => (F13.out ((upd_ne (by decide)).symm.trans hk)), fun hk => (F14.out ((upd_ne (by decide)).symm.trans hk)), fun hk => (F15.out ((upd_ne (by decide)).symm.trans hk)), fun hk => (F16.out ((upd_ne (by decide)).symm.trans hk)), fun hk => (F17.out ((upd_ne (by decide)).symm.trans hk)), fun hk => (F18.out ((upd_ne (by decide)).symm.trans hk)), fun hk => (F19.out ((upd_ne (by decide)).symm.trans hk)), fun hk => (F20.out ((upd_ne (by decide)).symm.trans hk)), fun hk => (let ⟨h20, b, e, hl, hB⟩ := (F21.out ((upd_ne (by decide)).symm.trans hk)); ⟨(upd_ne (by decide)).trans h20, b, e, hl, hB⟩)⟩
  · rintro L A X ⟨v3, v7, v8, v9, v10, v11, v12, v13, v14, v15, v16, v17, v18, v19, v20, v21, v22, v23, v24, v25, v26, rfl, hw, f0, f1, f2, f3, f4, f5, f6, f7, f8, f9, f10, f11, f12, f13, f14, f15, f16, f17, f18, f19, f20, f21⟩ hL hdep K hK
    simp at hdep
    have d2 : L 2 = true := by first | exact hdep | exact hdep.1 | exact hdep.2 | exact hdep.2.1 | exact hdep.2.2 | exact hdep.2.2.1 | exact hdep.2.2.2
    have e2 := (f2 d2); subst e2
    clear hdep
    have F0 := Lib.hid f0
    have F1 := Lib.hid f1
    have F2 := Lib.hid f2
    have F3 := Lib.hid f3
    have F4 := Lib.hid f4
    have F5 := Lib.hid f5
    have F6 := Lib.hid f6
    have F7 := Lib.hid f7
    have F8 := Lib.hid f8
    have F9 := Lib.hid f9
    have F10 := Lib.hid f10
    have F11 := Lib.hid f11
    have F12 := Lib.hid f12
    have F13 := Lib.hid f13
    have F14 := Lib.hid f14
    have F15 := Lib.hid f15
    have F16 := Lib.hid f16
    have F17 := Lib.hid f17
    have F18 := Lib.hid f18
    have F19 := Lib.hid f19
    have F20 := Lib.hid f20
    have F21 := Lib.hid f21
    have HW := Lib.hid hw
    clear hw f0 f1 f2 f3 f4 f5 f6 f7 f8 f9 f10 f11 f12 f13 f14 f15 f16 f17 f18 f19 f20 f21
    go_simp
    refine hK.out _ _ ?_
    exact ⟨_, _, _, _, _, _, _, _, _, _, _, _, _, _, _, _, _, _, _, _, _, rfl, HW.out, fun hk => (F0.out ((upd_ne (by decide)).symm.trans hk)), fun hk => (F1.out ((upd_ne (by decide)).symm.trans hk)), fun _ => rfl, fun _ => rfl, fun hk => (F4.out ((upd_ne (by decide)).symm.trans hk)), fun hk => (F5.out ((upd_ne (by decide)).symm.trans hk)), fun hk => (F6.out ((upd_ne (by decide)).symm.trans hk)), fun hk => (F7.out ((upd_ne (by decide)).symm.trans hk)), fun hk => (F8.out ((upd_ne (by decide)).symm.trans hk)), fun hk => (F9.out ((upd_ne (by decide)).symm.trans hk)), fun hk => (F10.out ((upd_ne (by decide)).symm.trans hk)), fun hk => (F11.out ((upd_ne (by decide)).symm.trans hk)), fun hk => (F12.out ((upd_ne (by decide)).symm.trans hk)), fun hk => (F13.out ((upd_ne (by decide)).symm.trans hk)), fun hk => (F14.out ((upd_ne (by decide)).symm.trans hk)), fun hk => (F15.out ((upd_ne (by decide)).symm.trans hk)), fun hk => (F16.out ((upd_ne (by decide)).symm.trans hk)), fun hk => (F17.out ((upd_ne (by decide)).symm.trans hk)), fun hk => (F18.out ((upd_ne (by decide)).symm.trans hk)), fun hk => (F19.out ((upd_ne (by decide)).symm.trans hk)), fun hk => (F20.out ((upd_ne (by decide)).symm.trans hk)), fun hk => (let ⟨h20, b, e, hl, hB⟩ := (F21.out ((upd_ne (by decide)).symm.trans hk)); ⟨(upd_ne (by decide)).trans h20, b, e, hl, hB⟩)⟩
  · rintro L A X ⟨v3, v7, v8, v9, v10, v11, v12, v13, v14, v15, v16, v17, v18, v19, v20, v21, v22, v23, v24, v25, v26, rfl, hw, f0, f1, f2, f3, f4, f5, f6, f7, f8, f9, f10, f11, f12, f13, f14, f15, f16, f17, f18, f19, f20, f21⟩ hL hdep K hK
    simp at hdep
    have d3 : L 3 = true := by first | exact hdep | exact hdep.1 | exact hdep.2 | exact hdep.2.1 | exact hdep.2.2 | exact hdep.2.2.1 | exact hdep.2.2.2
    have e3 := (f3 d3); subst e3
    clear hdep
    have c := HKN.out X hw.1
    have F0 := Lib.hid f0
    have F1 := Lib.hid f1
    have F2 := Lib.hid f2
    have F3 := Lib.hid f3
    have F4 := Lib.hid f4
    have F5 := Lib.hid f5
    have F6 := Lib.hid f6
    have F7 := Lib.hid f7
    have F8 := Lib.hid f8
    have F9 := Lib.hid f9
    have F10 := Lib.hid f10
    have F11 := Lib.hid f11
    have F12 := Lib.hid f12
    have F13 := Lib.hid f13
    have F14 := Lib.hid f14
    have F15 := Lib.hid f15
    have F16 := Lib.hid f16
    have F17 := Lib.hid f17
    have F18 := Lib.hid f18
    have F19 := Lib.hid f19
    have F20 := Lib.hid f20
    have F21 := Lib.hid f21
    have HW := Lib.hid hw
    clear hw f0 f1 f2 f3 f4 f5 f6 f7 f8 f9 f10 f11 f12 f13 f14 f15 f16 f17 f18 f19 f20 f21
    go_simp
    refine hK.out _ _ ?_
    exact ⟨_, _, _, _, _, _, _, _, _, _, _, _, _, _, _, _, _, _, _, _, _, rfl, HW.out, fun hk => (F0.out ((upd_ne (by decide)).symm.trans hk)), fun hk => (F1.out ((upd_ne (by decide)).symm.trans hk)), fun hk => (F2.out ((upd_ne (by decide)).symm.trans hk)), fun _ => rfl, fun _ => rfl, fun hk => (F5.out ((upd_ne (by decide)).symm.trans hk)), fun hk => (F6.out ((upd_ne (by decide)).symm.trans hk)), fun hk => (F7.out ((upd_ne (by decide)).symm.trans hk)), fun hk => (F8.out ((upd_ne (by decide)).symm.trans hk)), fun hk => (F9.out ((upd_ne (by decide)).symm.trans hk)), fun hk => (F10.out ((upd_ne (by decide)).symm.trans hk)), fun hk => (F11.out ((upd_ne (by decide)).symm.trans hk)), fun hk => (F12.out ((upd_ne (by decide)).symm.trans hk)), fun hk => (F13.out ((upd_ne (by decide)).symm.trans hk)), fun hk => (F14.out ((upd_ne (by decide)).symm.trans hk)), fun hk => (F15.out ((upd_ne (by decide)).symm.trans hk)), fun hk => (F16.out ((upd_ne (by decide)).symm.trans hk)), fun hk => (F17.out ((upd_ne (by decide)).symm.trans hk)), fun hk => (F18.out ((upd_ne (by decide)).symm.trans hk)), fun hk => (F19.out ((upd_ne (by decide)).symm.trans hk)), fun hk => (F20.out ((upd_ne (by decide)).symm.trans hk)), fun hk => (let ⟨h20, b, e, hl, hB⟩ := (F21.out ((upd_ne (by decide)).symm.trans hk)); ⟨(upd_ne (by decide)).trans h20, b, e, hl, hB⟩)⟩
  · rintro L A X ⟨v3, v7, v8, v9, v10, v11, v12, v13, v14, v15, v16, v17, v18, v19, v20, v21, v22, v23, v24, v25, v26, rfl, hw, f0, f1, f2, f3, f4, f5, f6, f7, f8, f9, f10, f11, f12, f13, f14, f15, f16, f17, f18, f19, f20, f21⟩ hL hdep K hK
    simp at hdep
    have d4 : L 4 = true := by first | exact hdep | exact hdep.1 | exact hdep.2 | exact hdep.2.1 | exact hdep.2.2 | exact hdep.2.2.1 | exact hdep.2.2.2
    have e4 := (f4 d4); subst e4
    clear hdep
    have F0 := Lib.hid f0
    have F1 := Lib.hid f1
    have F2 := Lib.hid f2
    have F3 := Lib.hid f3
    have F4 := Lib.hid f4
    have F5 := Lib.hid f5
    have F6 := Lib.hid f6
    have F7 := Lib.hid f7
    have F8 := Lib.hid f8
    have F9 := Lib.hid f9
    have F10 := Lib.hid f10
    have F11 := Lib.hid f11
    have F12 := Lib.hid f12
    have F13 := Lib.hid f13
    have F14 := Lib.hid f14
    have F15 := Lib.hid f15
    have F16 := Lib.hid f16
    have F17 := Lib.hid f17
    have F18 := Lib.hid f18
    have F19 := Lib.hid f19
    have F20 := Lib.hid f20
    have F21 := Lib.hid f21
    have HW := Lib.hid hw
    clear hw f0 f1 f2 f3 f4 f5 f6 f7 f8 f9 f10 f11 f12 f13 f14 f15 f16 f17 f18 f19 f20 f21
    go_simp
    refine hK.out _ _ ?_
    exact ⟨_, _, _, _, _, _, _, _, _, _, _, _, _, _, _, _, _, _, _, _, _, rfl, HW.out, fun hk => (F0.out ((upd_ne (by decide)).symm.trans hk)), fun hk => (F1.out ((upd_ne (by decide)).symm.trans hk)), fun hk => (F2.out ((upd_ne (by decide)).symm.trans hk)), fun hk => (F3.out ((upd_ne (by decide)).symm.trans hk)), fun _ => rfl, fun _ => rfl, fun hk => (F6.out ((upd_ne (by decide)).symm.trans hk)), fun hk => (F7.out ((upd_ne (by decide)).symm.trans hk)), fun hk => (F8.out ((upd_ne (by decide)).symm.trans hk)), fun hk => (F9.out ((upd_ne (by decide)).symm.trans hk)), fun hk => (F10.out ((upd_ne (by decide)).symm.trans hk)), fun hk => (F11.out ((upd_ne (by decide)).symm.trans hk)), fun hk => (F12.out ((upd_ne (by decide)).symm.trans hk)), fun hk => (F13.out ((upd_ne (by decide)).symm.trans hk)), fun hk => (F14.out ((upd_ne (by decide)).symm.trans hk)), fun hk => (F15.out ((upd_ne (by decide)).symm.trans hk)), fun hk => (F16.out ((upd_ne (by decide)).symm.trans hk)), fun hk => (F17.out ((upd_ne (by decide)).symm.trans hk)), fun hk => (F18.out ((upd_ne (by decide)).symm.trans hk)), fun hk => (F19.out ((upd_ne (by decide)).symm.trans hk)), fun hk => (F20.out ((upd_ne (by decide)).symm.trans hk)), fun hk => (let ⟨h20, b, e, hl, hB⟩ := (F21.out ((upd_ne (by decide)).symm.trans hk)); ⟨(upd_ne (by decide)).trans h20, b, e, hl, hB⟩)⟩
  · rintro L A X ⟨v3, v7, v8, v9, v10, v11, v12, v13, v14, v15, v16, v17, v18, v19, v20, v21, v22, v23, v24, v25, v26, rfl, hw, f0, f1, f2, f3, f4, f5, f6, f7, f8, f9, f10, f11, f12, f13, f14, f15, f16, f17, f18, f19, f20, f21⟩ hL hdep K hK
    clear hdep
    have F0 := Lib.hid f0
    have F1 := Lib.hid f1
    have F2 := Lib.hid f2
    have F3 := Lib.hid f3
    have F4 := Lib.hid f4
    have F5 := Lib.hid f5
    have F6 := Lib.hid f6
    have F7 := Lib.hid f7
    have F8 := Lib.hid f8
    have F9 := Lib.hid f9
    have F10 := Lib.hid f10
    have F11 := Lib.hid f11
    have F12 := Lib.hid f12
    have F13 := Lib.hid f13
    have F14 := Lib.hid f14
    have F15 := Lib.hid f15
    have F16 := Lib.hid f16
    have F17 := Lib.hid f17
    have F18 := Lib.hid f18
    have F19 := Lib.hid f19
    have F20 := Lib.hid f20
    have F21 := Lib.hid f21
    have HW := Lib.hid hw
    clear hw f0 f1 f2 f3 f4 f5 f6 f7 f8 f9 f10 f11 f12 f13 f14 f15 f16 f17 f18 f19 f20 f21
    go_simp
    refine hK.out _ _ ?_
    exact ⟨_, _, _, _, _, _, _, _, _, _, _, _, _, _, _, _, _, _, _, _, _, rfl, HW.out, fun hk => (F0.out ((upd_ne (by decide)).symm.trans hk)), fun hk => (F1.out ((upd_ne (by decide)).symm.trans hk)), fun hk => (F2.out ((upd_ne (by decide)).symm.trans hk)), fun hk => (F3.out ((upd_ne (by decide)).symm.trans hk)), fun hk => (F4.out ((upd_ne (by decide)).symm.trans hk)), fun hk => (F5.out ((upd_ne (by decide)).symm.trans hk)), fun _ => rfl, fun hk => (F7.out ((upd_ne (by decide)).symm.trans hk)), fun hk => (F8.out ((upd_ne (by decide)).symm.trans hk)), fun hk => (F9.out ((upd_ne (by decide)).symm.trans hk)), fun hk => (F10.out ((upd_ne (by decide)).symm.trans hk)), fun hk => (F11.out ((upd_ne (by decide)).symm.trans hk)), fun hk => (F12.out ((upd_ne (by decide)).symm.trans hk)), fun hk => (F13.out ((upd_ne (by decide)).symm.trans hk)), fun hk => (F14.out ((upd_ne (by decide)).symm.trans hk)), fun hk => (F15.out ((upd_ne (by decide)).symm.trans hk)), fun hk => (F16.out ((upd_ne (by decide)).symm.trans hk)), fun hk => (F17.out ((upd_ne (by decide)).symm.trans hk)), fun hk => (F18.out ((upd_ne (by decide)).symm.trans hk)), fun hk => (F19.out ((upd_ne (by decide)).symm.trans hk)), fun hk => (F20.out ((upd_ne (by decide)).symm.trans hk)), fun hk => (let ⟨h20, b, e, hl, hB⟩ := (F21.out ((upd_ne (by decide)).symm.trans hk)); ⟨(upd_ne (by decide)).trans h20, b, e, hl, hB⟩)⟩
  · rintro L A X ⟨v3, v7, v8, v9, v10, v11, v12, v13, v14, v15, v16, v17, v18, v19, v20, v21, v22, v23, v24, v25, v26, rfl, hw, f0, f1, f2, f3, f4, f5, f6, f7, f8, f9, f10, f11, f12, f13, f14, f15, f16, f17, f18, f19, f20, f21⟩ hL hdep K hK
    simp at hdep
    have d6 : L 6 = true := by first | exact hdep | exact hdep.1 | exact hdep.2 | exact hdep.2.1 | exact hdep.2.2 | exact hdep.2.2.1 | exact hdep.2.2.2
    have e6 := (f6 d6); subst e6
    clear hdep
    have c := Kn.c hw (b := w.heap.size) (T := 37) (vs := x.cs s q) (by simp) 1 _ rfl
    have c2 := Kn.c hw (b := w.heap.size) (T := 37) (vs := x.cs s q) (by simp) 2 _ rfl
    have F0 := Lib.hid f0
    have F1 := Lib.hid f1
    have F2 := Lib.hid f2
    have F3 := Lib.hid f3
    have F4 := Lib.hid f4
    have F5 := Lib.hid f5
    have F6 := Lib.hid f6
    have F7 := Lib.hid f7
    have F8 := Lib.hid f8
    have F9 := Lib.hid f9
    have F10 := Lib.hid f10
    have F11 := Lib.hid f11
    have F12 := Lib.hid f12
    have F13 := Lib.hid f13
    have F14 := Lib.hid f14
    have F15 := Lib.hid f15
    have F16 := Lib.hid f16
    have F17 := Lib.hid f17
    have F18 := Lib.hid f18
    have F19 := Lib.hid f19
    have F20 := Lib.hid f20
    have F21 := Lib.hid f21
    have HW := Lib.hid hw
    clear hw f0 f1 f2 f3 f4 f5 f6 f7 f8 f9 f10 f11 f12 f13 f14 f15 f16 f17 f18 f19 f20 f21
    go_simp
    refine hK.out _ _ ?_
    exact ⟨_, _, _, _, _, _, _, _, _, _, _, _, _, _, _, _, _, _, _, _, _, rfl, HW.out, fun hk => (F0.out ((upd_ne (by decide)).symm.trans hk)), fun hk => (F1.out ((upd_ne (by decide)).symm.trans hk)), fun hk => (F2.out ((upd_ne (by decide)).symm.trans hk)), fun hk => (F3.out ((upd_ne (by decide)).symm.trans hk)), fun hk => (F4.out ((upd_ne (by decide)).symm.trans hk)), fun hk => (F5.out ((upd_ne (by decide)).symm.trans hk)), fun _ => rfl, fun _ => rfl, fun hk => (F8.out ((upd_ne (by decide)).symm.trans hk)), fun hk => (F9.out ((upd_ne (by decide)).symm.trans hk)), fun hk => (F10.out ((upd_ne (by decide)).symm.trans hk)), fun hk => (F11.out ((upd_ne (by decide)).symm.trans hk)), fun hk => (F12.out ((upd_ne (by decide)).symm.trans hk)), fun hk => (F13.out ((upd_ne (by decide)).symm.trans hk)), fun hk => (F14.out ((upd_ne (by decide)).symm.trans hk)), fun hk => (F15.out ((upd_ne (by decide)).symm.trans hk)), fun hk => (F16.out ((upd_ne (by decide)).symm.trans hk)), fun hk => (F17.out ((upd_ne (by decide)).symm.trans hk)), fun hk => (F18.out ((upd_ne (by decide)).symm.trans hk)), fun hk => (F19.out ((upd_ne (by decide)).symm.trans hk)), fun hk => (F20.out ((upd_ne (by decide)).symm.trans hk)), fun hk => (let ⟨h20, b, e, hl, hB⟩ := (F21.out ((upd_ne (by decide)).symm.trans hk)); ⟨(upd_ne (by decide)).trans h20, b, e, hl, hB⟩)⟩
  · rintro L A X ⟨v3, v7, v8, v9, v10, v11, v12, v13, v14, v15, v16, v17, v18, v19, v20, v21, v22, v23, v24, v25, v26, rfl, hw, f0, f1, f2, f3, f4, f5, f6, f7, f8, f9, f10, f11, f12, f13, f14, f15, f16, f17, f18, f19, f20, f21⟩ hL hdep K hK
    simp at hdep
    have d7 : L 7 = true := by first | exact hdep | exact hdep.1 | exact hdep.2 | exact hdep.2.1 | exact hdep.2.2 | exact hdep.2.2.1 | exact hdep.2.2.2
    have e7 := (f7 d7); subst e7
    clear hdep
    have F0 := Lib.hid f0
    have F1 := Lib.hid f1
    have F2 := Lib.hid f2
    have F3 := Lib.hid f3
    have F4 := Lib.hid f4
    have F5 := Lib.hid f5
    have F6 := Lib.hid f6
    have F7 := Lib.hid f7
    have F8 := Lib.hid f8
    have F9 := Lib.hid f9
    have F10 := Lib.hid f10
    have F11 := Lib.hid f11
    have F12 := Lib.hid f12
    have F13 := Lib.hid f13
    have F14 := Lib.hid f14
    have F15 := Lib.hid f15
    have F16 := Lib.hid f16
    have F17 := Lib.hid f17
    have F18 := Lib.hid f18
    have F19 := Lib.hid f19
    have F20 := Lib.hid f20
    have F21 := Lib.hid f21
    have HW := Lib.hid hw
    clear hw f0 f1 f2 f3 f4 f5 f6 f7 f8 f9 f10 f11 f12 f13 f14 f15 f16 f17 f18 f19 f20 f21
    go_simp
    gi_wp2_with fail
    refine ⟨trivial, ?_⟩
    refine (callsIn_wide.2 (G1.out _)).mono ?_
    rintro e y ⟨rfl, hb⟩
    go_simp
    refine hK.out _ _ ?_
    exact ⟨_, _, _, _, _, _, _, _, _, _, _, _, _, _, _, _, _, _, _, _, _, rfl, Kn.stay HW.out hb, fun hk => (F0.out ((upd_ne (by decide)).symm.trans hk)), fun hk => (F1.out ((upd_ne (by decide)).symm.trans hk)), fun hk => (F2.out ((upd_ne (by decide)).symm.trans hk)), fun hk => (F3.out ((upd_ne (by decide)).symm.trans hk)), fun hk => (F4.out ((upd_ne (by decide)).symm.trans hk)), fun hk => (F5.out ((upd_ne (by decide)).symm.trans hk)), fun hk => (F6.out ((upd_ne (by decide)).symm.trans hk)), fun _ => rfl, fun _ => rfl, fun hk => (F9.out ((upd_ne (by decide)).symm.trans hk)), fun hk => (F10.out ((upd_ne (by decide)).symm.trans hk)), fun hk => (F11.out ((upd_ne (by decide)).symm.trans hk)), fun hk => (F12.out ((upd_ne (by decide)).symm.trans hk)), fun hk => (F13.out ((upd_ne (by decide)).symm.trans hk)), fun hk => (F14.out ((upd_ne (by decide)).symm.trans hk)), fun hk => (F15.out ((upd_ne (by decide)).symm.trans hk)), fun hk => (F16.out ((upd_ne (by decide)).symm.trans hk)), fun hk => (F17.out ((upd_ne (by decide)).symm.trans hk)), fun hk => (F18.out ((upd_ne (by decide)).symm.trans hk)), fun hk => (F19.out ((upd_ne (by decide)).symm.trans hk)), fun hk => (let ⟨b, e, hl, c, hB⟩ := (F20.out ((upd_ne (by decide)).symm.trans hk)); ⟨b, e, hl, c, hB.stay hb⟩), fun hk => (let ⟨h20, b, e, hl, hB⟩ := (F21.out ((upd_ne (by decide)).symm.trans hk)); ⟨(upd_ne (by decide)).trans h20, b, e, hl, hB.stay hb⟩)⟩
  · rintro L A X ⟨v3, v7, v8, v9, v10, v11, v12, v13, v14, v15, v16, v17, v18, v19, v20, v21, v22, v23, v24, v25, v26, rfl, hw, f0, f1, f2, f3, f4, f5, f6, f7, f8, f9, f10, f11, f12, f13, f14, f15, f16, f17, f18, f19, f20, f21⟩ hL hdep K hK
    simp at hdep
    have d5 : L 5 = true := by first | exact hdep | exact hdep.1 | exact hdep.2 | exact hdep.2.1 | exact hdep.2.2 | exact hdep.2.2.1 | exact hdep.2.2.2
    have d8 : L 8 = true := by first | exact hdep | exact hdep.1 | exact hdep.2 | exact hdep.2.1 | exact hdep.2.2 | exact hdep.2.2.1 | exact hdep.2.2.2
    have e5 := (f5 d5); subst e5
    have e8 := (f8 d8); subst e8
    clear hdep
    have F0 := Lib.hid f0
    have F1 := Lib.hid f1
    have F2 := Lib.hid f2
    have F3 := Lib.hid f3
    have F4 := Lib.hid f4
    have F5 := Lib.hid f5
    have F6 := Lib.hid f6
    have F7 := Lib.hid f7
    have F8 := Lib.hid f8
    have F9 := Lib.hid f9
    have F10 := Lib.hid f10
    have F11 := Lib.hid f11
    have F12 := Lib.hid f12
    have F13 := Lib.hid f13
    have F14 := Lib.hid f14
    have F15 := Lib.hid f15
    have F16 := Lib.hid f16
    have F17 := Lib.hid f17
    have F18 := Lib.hid f18
    have F19 := Lib.hid f19
    have F20 := Lib.hid f20
    have F21 := Lib.hid f21
    have HW := Lib.hid hw
    clear hw f0 f1 f2 f3 f4 f5 f6 f7 f8 f9 f10 f11 f12 f13 f14 f15 f16 f17 f18 f19 f20 f21
    go_simp
    refine hK.out _ _ ?_
    exact ⟨_, _, _, _, _, _, _, _, _, _, _, _, _, _, _, _, _, _, _, _, _, rfl, HW.out, fun hk => (F0.out ((upd_ne (by decide)).symm.trans hk)), fun hk => (F1.out ((upd_ne (by decide)).symm.trans hk)), fun hk => (F2.out ((upd_ne (by decide)).symm.trans hk)), fun hk => (F3.out ((upd_ne (by decide)).symm.trans hk)), fun hk => (F4.out ((upd_ne (by decide)).symm.trans hk)), fun _ => rfl, fun hk => (F6.out ((upd_ne (by decide)).symm.trans hk)), fun hk => (F7.out ((upd_ne (by decide)).symm.trans hk)), fun _ => rfl, fun _ => rfl, fun hk => (F10.out ((upd_ne (by decide)).symm.trans hk)), fun hk => (F11.out ((upd_ne (by decide)).symm.trans hk)), fun hk => (F12.out ((upd_ne (by decide)).symm.trans hk)), fun hk => (F13.out ((upd_ne (by decide)).symm.trans hk)), fun hk => (F14.out ((upd_ne (by decide)).symm.trans hk)), fun hk => (F15.out ((upd_ne (by decide)).symm.trans hk)), fun hk => (F16.out ((upd_ne (by decide)).symm.trans hk)), fun hk => (F17.out ((upd_ne (by decide)).symm.trans hk)), fun hk => (F18.out ((upd_ne (by decide)).symm.trans hk)), fun hk => (F19.out ((upd_ne (by decide)).symm.trans hk)), fun hk => (F20.out ((upd_ne (by decide)).symm.trans hk)), fun hk => (let ⟨h20, b, e, hl, hB⟩ := (F21.out ((upd_ne (by decide)).symm.trans hk)); ⟨(upd_ne (by decide)).trans h20, b, e, hl, hB⟩)⟩
  · rintro L A X ⟨v3, v7, v8, v9, v10, v11, v12, v13, v14, v15, v16, v17, v18, v19, v20, v21, v22, v23, v24, v25, v26, rfl, hw, f0, f1, f2, f3, f4, f5, f6, f7, f8, f9, f10, f11, f12, f13, f14, f15, f16, f17, f18, f19, f20, f21⟩ hL hdep K hK
    simp at hdep
    have d9 : L 9 = true := by first | exact hdep | exact hdep.1 | exact hdep.2 | exact hdep.2.1 | exact hdep.2.2 | exact hdep.2.2.1 | exact hdep.2.2.2
    have e9 := (f9 d9); subst e9
    clear hdep
    have F0 := Lib.hid f0
    have F1 := Lib.hid f1
    have F2 := Lib.hid f2
    have F3 := Lib.hid f3
    have F4 := Lib.hid f4
    have F5 := Lib.hid f5
    have F6 := Lib.hid f6
    have F7 := Lib.hid f7
    have F8 := Lib.hid f8
    have F9 := Lib.hid f9
    have F10 := Lib.hid f10
    have F11 := Lib.hid f11
    have F12 := Lib.hid f12
    have F13 := Lib.hid f13
    have F14 := Lib.hid f14
    have F15 := Lib.hid f15
    have F16 := Lib.hid f16
    have F17 := Lib.hid f17
    have F18 := Lib.hid f18
    have F19 := Lib.hid f19
    have F20 := Lib.hid f20
    have F21 := Lib.hid f21
    have HW := Lib.hid hw
    clear hw f0 f1 f2 f3 f4 f5 f6 f7 f8 f9 f10 f11 f12 f13 f14 f15 f16 f17 f18 f19 f20 f21
    go_simp
    refine hK.out _ _ ?_
    exact ⟨_, _, _, _, _, _, _, _, _, _, _, _, _, _, _, _, _, _, _, _, _, rfl, HW.out, fun hk => (F0.out ((upd_ne (by decide)).symm.trans hk)), fun hk => (F1.out ((upd_ne (by decide)).symm.trans hk)), fun hk => (F2.out ((upd_ne (by decide)).symm.trans hk)), fun hk => (F3.out ((upd_ne (by decide)).symm.trans hk)), fun hk => (F4.out ((upd_ne (by decide)).symm.trans hk)), fun hk => (F5.out ((upd_ne (by decide)).symm.trans hk)), fun hk => (F6.out ((upd_ne (by decide)).symm.trans hk)), fun hk => (F7.out ((upd_ne (by decide)).symm.trans hk)), fun hk => (F8.out ((upd_ne (by decide)).symm.trans hk)), fun _ => rfl, fun _ => rfl, fun hk => (F11.out ((upd_ne (by decide)).symm.trans hk)), fun hk => (F12.out ((upd_ne (by decide)).symm.trans hk)), fun hk => (F13.out ((upd_ne (by decide)).symm.trans hk)), fun hk => (F14.out ((upd_ne (by decide)).symm.trans hk)), fun hk => (F15.out ((upd_ne (by decide)).symm.trans hk)), fun hk => (F16.out ((upd_ne (by decide)).symm.trans hk)), fun hk => (F17.out ((upd_ne (by decide)).symm.trans hk)), fun hk => (F18.out ((upd_ne (by decide)).symm.trans hk)), fun hk => (F19.out ((upd_ne (by decide)).symm.trans hk)), fun hk => (F20.out ((upd_ne (by decide)).symm.trans hk)), fun hk => (let ⟨h20, b, e, hl, hB⟩ := (F21.out ((upd_ne (by decide)).symm.trans hk)); ⟨(upd_ne (by decide)).trans h20, b, e, hl, hB⟩)⟩
  · rintro L A X ⟨v3, v7, v8, v9, v10, v11, v12, v13, v14, v15, v16, v17, v18, v19, v20, v21, v22, v23, v24, v25, v26, rfl, hw, f0, f1, f2, f3, f4, f5, f6, f7, f8, f9, f10, f11, f12, f13, f14, f15, f16, f17, f18, f19, f20, f21⟩ hL hdep K hK
    clear hdep
    have F0 := Lib.hid f0
    have F1 := Lib.hid f1
    have F2 := Lib.hid f2
    have F3 := Lib.hid f3
    have F4 := Lib.hid f4
    have F5 := Lib.hid f5
    have F6 := Lib.hid f6
    have F7 := Lib.hid f7
    have F8 := Lib.hid f8
    have F9 := Lib.hid f9
    have F10 := Lib.hid f10
    have F11 := Lib.hid f11
    have F12 := Lib.hid f12
    have F13 := Lib.hid f13
    have F14 := Lib.hid f14
    have F15 := Lib.hid f15
    have F16 := Lib.hid f16
    have F17 := Lib.hid f17
    have F18 := Lib.hid f18
    have F19 := Lib.hid f19
    have F20 := Lib.hid f20
    have F21 := Lib.hid f21
    have HW := Lib.hid hw
    clear hw f0 f1 f2 f3 f4 f5 f6 f7 f8 f9 f10 f11 f12 f13 f14 f15 f16 f17 f18 f19 f20 f21
    go_simp
    refine hK.out _ _ ?_
    exact ⟨_, _, _, _, _, _, _, _, _, _, _, _, _, _, _, _, _, _, _, _, _, rfl, HW.out, fun hk => (F0.out ((upd_ne (by decide)).symm.trans hk)), fun hk => (F1.out ((upd_ne (by decide)).symm.trans hk)), fun hk => (F2.out ((upd_ne (by decide)).symm.trans hk)), fun hk => (F3.out ((upd_ne (by decide)).symm.trans hk)), fun hk => (F4.out ((upd_ne (by decide)).symm.trans hk)), fun hk => (F5.out ((upd_ne (by decide)).symm.trans hk)), fun hk => (F6.out ((upd_ne (by decide)).symm.trans hk)), fun hk => (F7.out ((upd_ne (by decide)).symm.trans hk)), fun hk => (F8.out ((upd_ne (by decide)).symm.trans hk)), fun hk => (F9.out ((upd_ne (by decide)).symm.trans hk)), fun hk => (F10.out ((upd_ne (by decide)).symm.trans hk)), fun _ => rfl, fun hk => (F12.out ((upd_ne (by decide)).symm.trans hk)), fun hk => (F13.out ((upd_ne (by decide)).symm.trans hk)), fun hk => (F14.out ((upd_ne (by decide)).symm.trans hk)), fun hk => (F15.out ((upd_ne (by decide)).symm.trans hk)), fun hk => (F16.out ((upd_ne (by decide)).symm.trans hk)), fun hk => (F17.out ((upd_ne (by decide)).symm.trans hk)), fun hk => (F18.out ((upd_ne (by decide)).symm.trans hk)), fun hk => (F19.out ((upd_ne (by decide)).symm.trans hk)), fun hk => (F20.out ((upd_ne (by decide)).symm.trans hk)), fun hk => (let ⟨h20, b, e, hl, hB⟩ := (F21.out ((upd_ne (by decide)).symm.trans hk)); ⟨(upd_ne (by decide)).trans h20, b, e, hl, hB⟩)⟩
  · rintro L A X ⟨v3, v7, v8, v9, v10, v11, v12, v13, v14, v15, v16, v17, v18, v19, v20, v21, v22, v23, v24, v25, v26, rfl, hw, f0, f1, f2, f3, f4, f5, f6, f7, f8, f9, f10, f11, f12, f13, f14, f15, f16, f17, f18, f19, f20, f21⟩ hL hdep K hK
    simp at hdep
    have d11 : L 11 = true := by first | exact hdep | exact hdep.1 | exact hdep.2 | exact hdep.2.1 | exact hdep.2.2 | exact hdep.2.2.1 | exact hdep.2.2.2
    have e11 := (f11 d11); subst e11
    clear hdep
    have c := Kn.c hw (b := w.heap.size) (T := 37) (vs := x.cs s q) (by simp) 3 _ rfl
    have F0 := Lib.hid f0
    have F1 := Lib.hid f1
    have F2 := Lib.hid f2
    have F3 := Lib.hid f3
    have F4 := Lib.hid f4
    have F5 := Lib.hid f5
    have F6 := Lib.hid f6
    have F7 := Lib.hid f7
    have F8 := Lib.hid f8
    have F9 := Lib.hid f9
    have F10 := Lib.hid f10
    have F11 := Lib.hid f11
    have F12 := Lib.hid f12
    have F13 := Lib.hid f13
    have F14 := Lib.hid f14
    have F15 := Lib.hid f15
    have F16 := Lib.hid f16
    have F17 := Lib.hid f17
    have F18 := Lib.hid f18
    have F19 := Lib.hid f19
    have F20 := Lib.hid f20
    have F21 := Lib.hid f21
    have HW := Lib.hid hw
    clear hw f0 f1 f2 f3 f4 f5 f6 f7 f8 f9 f10 f11 f12 f13 f14 f15 f16 f17 f18 f19 f20 f21
    go_simp
    refine hK.out _ _ ?_
    exact ⟨_, _, _, _, _, _, _, _, _, _, _, _, _, _, _, _, _, _, _, _, _, rfl, HW.out, fun hk => (F0.out ((upd_ne (by decide)).symm.trans hk)), fun hk => (F1.out ((upd_ne (by decide)).symm.trans hk)), fun hk => (F2.out ((upd_ne (by decide)).symm.trans hk)), fun hk => (F3.out ((upd_ne (by decide)).symm.trans hk)), fun hk => (F4.out ((upd_ne (by decide)).symm.trans hk)), fun hk => (F5.out ((upd_ne (by decide)).symm.trans hk)), fun hk => (F6.out ((upd_ne (by decide)).symm.trans hk)), fun hk => (F7.out ((upd_ne (by decide)).symm.trans hk)), fun hk => (F8.out ((upd_ne (by decide)).symm.trans hk)), fun hk => (F9.out ((upd_ne (by decide)).symm.trans hk)), fun hk => (F10.out ((upd_ne (by decide)).symm.trans hk)), fun _ => rfl, fun _ => rfl, fun hk => (F13.out ((upd_ne (by decide)).symm.trans hk)), fun hk => (F14.out ((upd_ne (by decide)).symm.trans hk)), fun hk => (F15.out ((upd_ne (by decide)).symm.trans hk)), fun hk => (F16.out ((upd_ne (by decide)).symm.trans hk)), fun hk => (F17.out ((upd_ne (by decide)).symm.trans hk)), fun hk => (F18.out ((upd_ne (by decide)).symm.trans hk)), fun hk => (F19.out ((upd_ne (by decide)).symm.trans hk)), fun hk => (F20.out ((upd_ne (by decide)).symm.trans hk)), fun hk => (let ⟨h20, b, e, hl, hB⟩ := (F21.out ((upd_ne (by decide)).symm.trans hk)); ⟨(upd_ne (by decide)).trans h20, b, e, hl, hB⟩)⟩
  · rintro L A X ⟨v3, v7, v8, v9, v10, v11, v12, v13, v14, v15, v16, v17, v18, v19, v20, v21, v22, v23, v24, v25, v26, rfl, hw, f0, f1, f2, f3, f4, f5, f6, f7, f8, f9, f10, f11, f12, f13, f14, f15, f16, f17, f18, f19, f20, f21⟩ hL hdep K hK
    simp at hdep
    have d12 : L 12 = true := by first | exact hdep | exact hdep.1 | exact hdep.2 | exact hdep.2.1 | exact hdep.2.2 | exact hdep.2.2.1 | exact hdep.2.2.2
    have e12 := (f12 d12); subst e12
    clear hdep
    have F0 := Lib.hid f0
    have F1 := Lib.hid f1
    have F2 := Lib.hid f2
    have F3 := Lib.hid f3
    have F4 := Lib.hid f4
    have F5 := Lib.hid f5
    have F6 := Lib.hid f6
    have F7 := Lib.hid f7
    have F8 := Lib.hid f8
    have F9 := Lib.hid f9
    have F10 := Lib.hid f10
    have F11 := Lib.hid f11
    have F12 := Lib.hid f12
    have F13 := Lib.hid f13
    have F14 := Lib.hid f14
    have F15 := Lib.hid f15
    have F16 := Lib.hid f16
    have F17 := Lib.hid f17
    have F18 := Lib.hid f18
    have F19 := Lib.hid f19
    have F20 := Lib.hid f20
    have F21 := Lib.hid f21
    have HW := Lib.hid hw
    clear hw f0 f1 f2 f3 f4 f5 f6 f7 f8 f9 f10 f11 f12 f13 f14 f15 f16 f17 f18 f19 f20 f21
    go_simp
    gi_wp2_with fail
    refine ⟨trivial, ?_⟩
    refine (callsIn_wide.2 (G2.out X HW.out.1)).mono ?_
    rintro e y ⟨rfl, hb⟩
    go_simp
    refine hK.out _ _ ?_
    exact ⟨_, _, _, _, _, _, _, _, _, _, _, _, _, _, _, _, _, _, _, _, _, rfl, Kn.stay HW.out hb, fun hk => (F0.out ((upd_ne (by decide)).symm.trans hk)), fun hk => (F1.out ((upd_ne (by decide)).symm.trans hk)), fun hk => (F2.out ((upd_ne (by decide)).symm.trans hk)), fun hk => (F3.out ((upd_ne (by decide)).symm.trans hk)), fun hk => (F4.out ((upd_ne (by decide)).symm.trans hk)), fun hk => (F5.out ((upd_ne (by decide)).symm.trans hk)), fun hk => (F6.out ((upd_ne (by decide)).symm.trans hk)), fun hk => (F7.out ((upd_ne (by decide)).symm.trans hk)), fun hk => (F8.out ((upd_ne (by decide)).symm.trans hk)), fun hk => (F9.out ((upd_ne (by decide)).symm.trans hk)), fun hk => (F10.out ((upd_ne (by decide)).symm.trans hk)), fun hk => (F11.out ((upd_ne (by decide)).symm.trans hk)), fun _ => rfl, fun _ => rfl, fun hk => (F14.out ((upd_ne (by decide)).symm.trans hk)), fun hk => (F15.out ((upd_ne (by decide)).symm.trans hk)), fun hk => (F16.out ((upd_ne (by decide)).symm.trans hk)), fun hk => (F17.out ((upd_ne (by decide)).symm.trans hk)), fun hk => (F18.out ((upd_ne (by decide)).symm.trans hk)), fun hk => (F19.out ((upd_ne (by decide)).symm.trans hk)), fun hk => (let ⟨b, e, hl, c, hB⟩ := (F20.out ((upd_ne (by decide)).symm.trans hk)); ⟨b, e, hl, c, hB.stay hb⟩), fun hk => (let ⟨h20, b, e, hl, hB⟩ := (F21.out ((upd_ne (by decide)).symm.trans hk)); ⟨(upd_ne (by decide)).trans h20, b, e, hl, hB.stay hb⟩)⟩
  · rintro L A X ⟨v3, v7, v8, v9, v10, v11, v12, v13, v14, v15, v16, v17, v18, v19, v20, v21, v22, v23, v24, v25, v26, rfl, hw, f0, f1, f2, f3, f4, f5, f6, f7, f8, f9, f10, f11, f12, f13, f14, f15, f16, f17, f18, f19, f20, f21⟩ hL hdep K hK
    simp at hdep
    have d10 : L 10 = true := by first | exact hdep | exact hdep.1 | exact hdep.2 | exact hdep.2.1 | exact hdep.2.2 | exact hdep.2.2.1 | exact hdep.2.2.2
    have d13 : L 13 = true := by first | exact hdep | exact hdep.1 | exact hdep.2 | exact hdep.2.1 | exact hdep.2.2 | exact hdep.2.2.1 | exact hdep.2.2.2
    have e10 := (f10 d10); subst e10
    have e13 := (f13 d13); subst e13
    clear hdep
    have F0 := Lib.hid f0
    have F1 := Lib.hid f1
    have F2 := Lib.hid f2
    have F3 := Lib.hid f3
    have F4 := Lib.hid f4
    have F5 := Lib.hid f5
    have F6 := Lib.hid f6
    have F7 := Lib.hid f7
    have F8 := Lib.hid f8
    have F9 := Lib.hid f9
    have F10 := Lib.hid f10
    have F11 := Lib.hid f11
    have F12 := Lib.hid f12
    have F13 := Lib.hid f13
    have F14 := Lib.hid f14
    have F15 := Lib.hid f15
    have F16 := Lib.hid f16
    have F17 := Lib.hid f17
    have F18 := Lib.hid f18
    have F19 := Lib.hid f19
    have F20 := Lib.hid f20
    have F21 := Lib.hid f21
    have HW := Lib.hid hw
    clear hw f0 f1 f2 f3 f4 f5 f6 f7 f8 f9 f10 f11 f12 f13 f14 f15 f16 f17 f18 f19 f20 f21
    go_simp
    refine hK.out _ _ ?_
    exact ⟨_, _, _, _, _, _, _, _, _, _, _, _, _, _, _, _, _, _, _, _, _, rfl, HW.out, fun hk => (F0.out ((upd_ne (by decide)).symm.trans hk)), fun hk => (F1.out ((upd_ne (by decide)).symm.trans hk)), fun hk => (F2.out ((upd_ne (by decide)).symm.trans hk)), fun hk => (F3.out ((upd_ne (by decide)).symm.trans hk)), fun hk => (F4.out ((upd_ne (by decide)).symm.trans hk)), fun hk => (F5.out ((upd_ne (by decide)).symm.trans hk)), fun hk => (F6.out ((upd_ne (by decide)).symm.trans hk)), fun hk => (F7.out ((upd_ne (by decide)).symm.trans hk)), fun hk => (F8.out ((upd_ne (by decide)).symm.trans hk)), fun hk => (F9.out ((upd_ne (by decide)).symm.trans hk)), fun _ => rfl, fun hk => (F11.out ((upd_ne (by decide)).symm.trans hk)), fun hk => (F12.out ((upd_ne (by decide)).symm.trans hk)), fun _ => rfl, fun _ => rfl, fun hk => (F15.out ((upd_ne (by decide)).symm.trans hk)), fun hk => (F16.out ((upd_ne (by decide)).symm.trans hk)), fun hk => (F17.out ((upd_ne (by decide)).symm.trans hk)), fun hk => (F18.out ((upd_ne (by decide)).symm.trans hk)), fun hk => (F19.out ((upd_ne (by decide)).symm.trans hk)), fun hk => (F20.out ((upd_ne (by decide)).symm.trans hk)), fun hk => (let ⟨h20, b, e, hl, hB⟩ := (F21.out ((upd_ne (by decide)).symm.trans hk)); ⟨(upd_ne (by decide)).trans h20, b, e, hl, hB⟩)⟩
  · rintro L A X ⟨v3, v7, v8, v9, v10, v11, v12, v13, v14, v15, v16, v17, v18, v19, v20, v21, v22, v23, v24, v25, v26, rfl, hw, f0, f1, f2, f3, f4, f5, f6, f7, f8, f9, f10, f11, f12, f13, f14, f15, f16, f17, f18, f19, f20, f21⟩ hL hdep K hK
    simp at hdep
    have d14 : L 14 = true := by first | exact hdep | exact hdep.1 | exact hdep.2 | exact hdep.2.1 | exact hdep.2.2 | exact hdep.2.2.1 | exact hdep.2.2.2
    have e14 := (f14 d14); subst e14
    clear hdep
    have F0 := Lib.hid f0
    have F1 := Lib.hid f1
    have F2 := Lib.hid f2
    have F3 := Lib.hid f3
    have F4 := Lib.hid f4
    have F5 := Lib.hid f5
    have F6 := Lib.hid f6
    have F7 := Lib.hid f7
    have F8 := Lib.hid f8
    have F9 := Lib.hid f9
    have F10 := Lib.hid f10
    have F11 := Lib.hid f11
    have F12 := Lib.hid f12
    have F13 := Lib.hid f13
    have F14 := Lib.hid f14
    have F15 := Lib.hid f15
    have F16 := Lib.hid f16
    have F17 := Lib.hid f17
    have F18 := Lib.hid f18
    have F19 := Lib.hid f19
    have F20 := Lib.hid f20
    have F21 := Lib.hid f21
    have HW := Lib.hid hw
    clear hw f0 f1 f2 f3 f4 f5 f6 f7 f8 f9 f10 f11 f12 f13 f14 f15 f16 f17 f18 f19 f20 f21
    go_simp
    refine hK.out _ _ ?_
    exact ⟨_, _, _, _, _, _, _, _, _, _, _, _, _, _, _, _, _, _, _, _, _, rfl, HW.out, fun hk => (F0.out ((upd_ne (by decide)).symm.trans hk)), fun hk => (F1.out ((upd_ne (by decide)).symm.trans hk)), fun hk => (F2.out ((upd_ne (by decide)).symm.trans hk)), fun hk => (F3.out ((upd_ne (by decide)).symm.trans hk)), fun hk => (F4.out ((upd_ne (by decide)).symm.trans hk)), fun hk => (F5.out ((upd_ne (by decide)).symm.trans hk)), fun hk => (F6.out ((upd_ne (by decide)).symm.trans hk)), fun hk => (F7.out ((upd_ne (by decide)).symm.trans hk)), fun hk => (F8.out ((upd_ne (by decide)).symm.trans hk)), fun hk => (F9.out ((upd_ne (by decide)).symm.trans hk)), fun hk => (F10.out ((upd_ne (by decide)).symm.trans hk)), fun hk => (F11.out ((upd_ne (by decide)).symm.trans hk)), fun hk => (F12.out ((upd_ne (by decide)).symm.trans hk)), fun hk => (F13.out ((upd_ne (by decide)).symm.trans hk)), fun _ => rfl, fun _ => rfl, fun hk => (F16.out ((upd_ne (by decide)).symm.trans hk)), fun hk => (F17.out ((upd_ne (by decide)).symm.trans hk)), fun hk => (F18.out ((upd_ne (by decide)).symm.trans hk)), fun hk => (F19.out ((upd_ne (by decide)).symm.trans hk)), fun hk => (F20.out ((upd_ne (by decide)).symm.trans hk)), fun hk => (let ⟨h20, b, e, hl, hB⟩ := (F21.out ((upd_ne (by decide)).symm.trans hk)); ⟨(upd_ne (by decide)).trans h20, b, e, hl, hB⟩)⟩
  · rintro L A X ⟨v3, v7, v8, v9, v10, v11, v12, v13, v14, v15, v16, v17, v18, v19, v20, v21, v22, v23, v24, v25, v26, rfl, hw, f0, f1, f2, f3, f4, f5, f6, f7, f8, f9, f10, f11, f12, f13, f14, f15, f16, f17, f18, f19, f20, f21⟩ hL hdep K hK
    clear hdep
    have F0 := Lib.hid f0
    have F1 := Lib.hid f1
    have F2 := Lib.hid f2
    have F3 := Lib.hid f3
    have F4 := Lib.hid f4
    have F5 := Lib.hid f5
    have F6 := Lib.hid f6
    have F7 := Lib.hid f7
    have F8 := Lib.hid f8
    have F9 := Lib.hid f9
    have F10 := Lib.hid f10
    have F11 := Lib.hid f11
    have F12 := Lib.hid f12
    have F13 := Lib.hid f13
    have F14 := Lib.hid f14
    have F15 := Lib.hid f15
    have F16 := Lib.hid f16
    have F17 := Lib.hid f17
    have F18 := Lib.hid f18
    have F19 := Lib.hid f19
    have F20 := Lib.hid f20
    have F21 := Lib.hid f21
    have HW := Lib.hid hw
    clear hw f0 f1 f2 f3 f4 f5 f6 f7 f8 f9 f10 f11 f12 f13 f14 f15 f16 f17 f18 f19 f20 f21
    go_simp
    refine hK.out _ _ ?_
    exact ⟨_, _, _, _, _, _, _, _, _, _, _, _, _, _, _, _, _, _, _, _, _, rfl, HW.out, fun hk => (F0.out ((upd_ne (by decide)).symm.trans hk)), fun hk => (F1.out ((upd_ne (by decide)).symm.trans hk)), fun hk => (F2.out ((upd_ne (by decide)).symm.trans hk)), fun hk => (F3.out ((upd_ne (by decide)).symm.trans hk)), fun hk => (F4.out ((upd_ne (by decide)).symm.trans hk)), fun hk => (F5.out ((upd_ne (by decide)).symm.trans hk)), fun hk => (F6.out ((upd_ne (by decide)).symm.trans hk)), fun hk => (F7.out ((upd_ne (by decide)).symm.trans hk)), fun hk => (F8.out ((upd_ne (by decide)).symm.trans hk)), fun hk => (F9.out ((upd_ne (by decide)).symm.trans hk)), fun hk => (F10.out ((upd_ne (by decide)).symm.trans hk)), fun hk => (F11.out ((upd_ne (by decide)).symm.trans hk)), fun hk => (F12.out ((upd_ne (by decide)).symm.trans hk)), fun hk => (F13.out ((upd_ne (by decide)).symm.trans hk)), fun hk => (F14.out ((upd_ne (by decide)).symm.trans hk)), fun hk => (F15.out ((upd_ne (by decide)).symm.trans hk)), fun _ => rfl, fun hk => (F17.out ((upd_ne (by decide)).symm.trans hk)), fun hk => (F18.out ((upd_ne (by decide)).symm.trans hk)), fun hk => (F19.out ((upd_ne (by decide)).symm.trans hk)), fun hk => (F20.out ((upd_ne (by decide)).symm.trans hk)), fun hk => (let ⟨h20, b, e, hl, hB⟩ := (F21.out ((upd_ne (by decide)).symm.trans hk)); ⟨(upd_ne (by decide)).trans h20, b, e, hl, hB⟩)⟩
  · rintro L A X ⟨v3, v7, v8, v9, v10, v11, v12, v13, v14, v15, v16, v17, v18, v19, v20, v21, v22, v23, v24, v25, v26, rfl, hw, f0, f1, f2, f3, f4, f5, f6, f7, f8, f9, f10, f11, f12, f13, f14, f15, f16, f17, f18, f19, f20, f21⟩ hL hdep K hK
    simp at hdep
    have d16 : L 16 = true := by first | exact hdep | exact hdep.1 | exact hdep.2 | exact hdep.2.1 | exact hdep.2.2 | exact hdep.2.2.1 | exact hdep.2.2.2
    have e16 := (f16 d16); subst e16
    clear hdep
    have c := Kn.c hw (b := w.heap.size) (T := 37) (vs := x.cs s q) (by simp) 4 _ rfl
    have F0 := Lib.hid f0
    have F1 := Lib.hid f1
    have F2 := Lib.hid f2
    have F3 := Lib.hid f3
    have F4 := Lib.hid f4
    have F5 := Lib.hid f5
    have F6 := Lib.hid f6
    have F7 := Lib.hid f7
    have F8 := Lib.hid f8
    have F9 := Lib.hid f9
    have F10 := Lib.hid f10
    have F11 := Lib.hid f11
    have F12 := Lib.hid f12
    have F13 := Lib.hid f13
    have F14 := Lib.hid f14
    have F15 := Lib.hid f15
    have F16 := Lib.hid f16
    have F17 := Lib.hid f17
    have F18 := Lib.hid f18
    have F19 := Lib.hid f19
    have F20 := Lib.hid f20
    have F21 := Lib.hid f21
    have HW := Lib.hid hw
    clear hw f0 f1 f2 f3 f4 f5 f6 f7 f8 f9 f10 f11 f12 f13 f14 f15 f16 f17 f18 f19 f20 f21
    go_simp
    refine hK.out _ _ ?_
    exact ⟨_, _, _, _, _, _, _, _, _, _, _, _, _, _, _, _, _, _, _, _, _, rfl, HW.out, fun hk => (F0.out ((upd_ne (by decide)).symm.trans hk)), fun hk => (F1.out ((upd_ne (by decide)).symm.trans hk)), fun hk => (F2.out ((upd_ne (by decide)).symm.trans hk)), fun hk => (F3.out ((upd_ne (by decide)).symm.trans hk)), fun hk => (F4.out ((upd_ne (by decide)).symm.trans hk)), fun hk => (F5.out ((upd_ne (by decide)).symm.trans hk)), fun hk => (F6.out ((upd_ne (by decide)).symm.trans hk)), fun hk => (F7.out ((upd_ne (by decide)).symm.trans hk)), fun hk => (F8.out ((upd_ne (by decide)).symm.trans hk)), fun hk => (F9.out ((upd_ne (by decide)).symm.trans hk)), fun hk => (F10.out ((upd_ne (by decide)).symm.trans hk)), fun hk => (F11.out ((upd_ne (by decide)).symm.trans hk)), fun hk => (F12.out ((upd_ne (by decide)).symm.trans hk)), fun hk => (F13.out ((upd_ne (by decide)).symm.trans hk)), fun hk => (F14.out ((upd_ne (by decide)).symm.trans hk)), fun hk => (F15.out ((upd_ne (by decide)).symm.trans hk)), fun _ => rfl, fun _ => rfl, fun hk => (F18.out ((upd_ne (by decide)).symm.trans hk)), fun hk => (F19.out ((upd_ne (by decide)).symm.trans hk)), fun hk => (F20.out ((upd_ne (by decide)).symm.trans hk)), fun hk => (let ⟨h20, b, e, hl, hB⟩ := (F21.out ((upd_ne (by decide)).symm.trans hk)); ⟨(upd_ne (by decide)).trans h20, b, e, hl, hB⟩)⟩
  · rintro L A X ⟨v3, v7, v8, v9, v10, v11, v12, v13, v14, v15, v16, v17, v18, v19, v20, v21, v22, v23, v24, v25, v26, rfl, hw, f0, f1, f2, f3, f4, f5, f6, f7, f8, f9, f10, f11, f12, f13, f14, f15, f16, f17, f18, f19, f20, f21⟩ hL hdep K hK
    simp at hdep
    have d17 : L 17 = true := by first | exact hdep | exact hdep.1 | exact hdep.2 | exact hdep.2.1 | exact hdep.2.2 | exact hdep.2.2.1 | exact hdep.2.2.2
    have e17 := (f17 d17); subst e17
    clear hdep
    have F0 := Lib.hid f0
    have F1 := Lib.hid f1
    have F2 := Lib.hid f2
    have F3 := Lib.hid f3
    have F4 := Lib.hid f4
    have F5 := Lib.hid f5
    have F6 := Lib.hid f6
    have F7 := Lib.hid f7
    have F8 := Lib.hid f8
    have F9 := Lib.hid f9
    have F10 := Lib.hid f10
    have F11 := Lib.hid f11
    have F12 := Lib.hid f12
    have F13 := Lib.hid f13
    have F14 := Lib.hid f14
    have F15 := Lib.hid f15
    have F16 := Lib.hid f16
    have F17 := Lib.hid f17
    have F18 := Lib.hid f18
    have F19 := Lib.hid f19
    have F20 := Lib.hid f20
    have F21 := Lib.hid f21
    have HW := Lib.hid hw
    clear hw f0 f1 f2 f3 f4 f5 f6 f7 f8 f9 f10 f11 f12 f13 f14 f15 f16 f17 f18 f19 f20 f21
    go_simp
    gi_wp2_with fail
    refine ⟨trivial, ?_⟩
    refine (callsIn_wide.2 (G3.out X HW.out.1)).mono ?_
    rintro e y ⟨rfl, hb⟩
    go_simp
    refine hK.out _ _ ?_
    exact ⟨_, _, _, _, _, _, _, _, _, _, _, _, _, _, _, _, _, _, _, _, _, rfl, Kn.stay HW.out hb, fun hk => (F0.out ((upd_ne (by decide)).symm.trans hk)), fun hk => (F1.out ((upd_ne (by decide)).symm.trans hk)), fun hk => (F2.out ((upd_ne (by decide)).symm.trans hk)), fun hk => (F3.out ((upd_ne (by decide)).symm.trans hk)), fun hk => (F4.out ((upd_ne (by decide)).symm.trans hk)), fun hk => (F5.out ((upd_ne (by decide)).symm.trans hk)), fun hk => (F6.out ((upd_ne (by decide)).symm.trans hk)), fun hk => (F7.out ((upd_ne (by decide)).symm.trans hk)), fun hk => (F8.out ((upd_ne (by decide)).symm.trans hk)), fun hk => (F9.out ((upd_ne (by decide)).symm.trans hk)), fun hk => (F10.out ((upd_ne (by decide)).symm.trans hk)), fun hk => (F11.out ((upd_ne (by decide)).symm.trans hk)), fun hk => (F12.out ((upd_ne (by decide)).symm.trans hk)), fun hk => (F13.out ((upd_ne (by decide)).symm.trans hk)), fun hk => (F14.out ((upd_ne (by decide)).symm.trans hk)), fun hk => (F15.out ((upd_ne (by decide)).symm.trans hk)), fun hk => (F16.out ((upd_ne (by decide)).symm.trans hk)), fun _ => rfl, fun _ => rfl, fun hk => (F19.out ((upd_ne (by decide)).symm.trans hk)), fun hk => (let ⟨b, e, hl, c, hB⟩ := (F20.out ((upd_ne (by decide)).symm.trans hk)); ⟨b, e, hl, c, hB.stay hb⟩), fun hk => (let ⟨h20, b, e, hl, hB⟩ := (F21.out ((upd_ne (by decide)).symm.trans hk)); ⟨(upd_ne (by decide)).trans h20, b, e, hl, hB.stay hb⟩)⟩
  · rintro L A X ⟨v3, v7, v8, v9, v10, v11, v12, v13, v14, v15, v16, v17, v18, v19, v20, v21, v22, v23, v24, v25, v26, rfl, hw, f0, f1, f2, f3, f4, f5, f6, f7, f8, f9, f10, f11, f12, f13, f14, f15, f16, f17, f18, f19, f20, f21⟩ hL hdep K hK
    simp at hdep
    have d15 : L 15 = true := by first | exact hdep | exact hdep.1 | exact hdep.2 | exact hdep.2.1 | exact hdep.2.2 | exact hdep.2.2.1 | exact hdep.2.2.2
    have d18 : L 18 = true := by first | exact hdep | exact hdep.1 | exact hdep.2 | exact hdep.2.1 | exact hdep.2.2 | exact hdep.2.2.1 | exact hdep.2.2.2
    have e15 := (f15 d15); subst e15
    have e18 := (f18 d18); subst e18
    clear hdep
    have F0 := Lib.hid f0
    have F1 := Lib.hid f1
    have F2 := Lib.hid f2
    have F3 := Lib.hid f3
    have F4 := Lib.hid f4
    have F5 := Lib.hid f5
    have F6 := Lib.hid f6
    have F7 := Lib.hid f7
    have F8 := Lib.hid f8
    have F9 := Lib.hid f9
    have F10 := Lib.hid f10
    have F11 := Lib.hid f11
    have F12 := Lib.hid f12
    have F13 := Lib.hid f13
    have F14 := Lib.hid f14
    have F15 := Lib.hid f15
    have F16 := Lib.hid f16
    have F17 := Lib.hid f17
    have F18 := Lib.hid f18
    have F19 := Lib.hid f19
    have F20 := Lib.hid f20
    have F21 := Lib.hid f21
    have HW := Lib.hid hw
    clear hw f0 f1 f2 f3 f4 f5 f6 f7 f8 f9 f10 f11 f12 f13 f14 f15 f16 f17 f18 f19 f20 f21
    go_simp
    refine hK.out _ _ ?_
    exact ⟨_, _, _, _, _, _, _, _, _, _, _, _, _, _, _, _, _, _, _, _, _, rfl, HW.out, fun hk => (F0.out ((upd_ne (by decide)).symm.trans hk)), fun hk => (F1.out ((upd_ne (by decide)).symm.trans hk)), fun hk => (F2.out ((upd_ne (by decide)).symm.trans hk)), fun hk => (F3.out ((upd_ne (by decide)).symm.trans hk)), fun hk => (F4.out ((upd_ne (by decide)).symm.trans hk)), fun hk => (F5.out ((upd_ne (by decide)).symm.trans hk)), fun hk => (F6.out ((upd_ne (by decide)).symm.trans hk)), fun hk => (F7.out ((upd_ne (by decide)).symm.trans hk)), fun hk => (F8.out ((upd_ne (by decide)).symm.trans hk)), fun hk => (F9.out ((upd_ne (by decide)).symm.trans hk)), fun hk => (F10.out ((upd_ne (by decide)).symm.trans hk)), fun hk => (F11.out ((upd_ne (by decide)).symm.trans hk)), fun hk => (F12.out ((upd_ne (by decide)).symm.trans hk)), fun hk => (F13.out ((upd_ne (by decide)).symm.trans hk)), fun hk => (F14.out ((upd_ne (by decide)).symm.trans hk)), fun _ => rfl, fun hk => (F16.out ((upd_ne (by decide)).symm.trans hk)), fun hk => (F17.out ((upd_ne (by decide)).symm.trans hk)), fun _ => rfl, fun _ => rfl, fun hk => (F20.out ((upd_ne (by decide)).symm.trans hk)), fun hk => (let ⟨h20, b, e, hl, hB⟩ := (F21.out ((upd_ne (by decide)).symm.trans hk)); ⟨(upd_ne (by decide)).trans h20, b, e, hl, hB⟩)⟩
  · rintro L A X ⟨v3, v7, v8, v9, v10, v11, v12, v13, v14, v15, v16, v17, v18, v19, v20, v21, v22, v23, v24, v25, v26, rfl, hw, f0, f1, f2, f3, f4, f5, f6, f7, f8, f9, f10, f11, f12, f13, f14, f15, f16, f17, f18, f19, f20, f21⟩ hL hdep K hK
    clear hdep
    have F0 := Lib.hid f0
    have F1 := Lib.hid f1
    have F2 := Lib.hid f2
    have F3 := Lib.hid f3
    have F4 := Lib.hid f4
    have F5 := Lib.hid f5
    have F6 := Lib.hid f6
    have F7 := Lib.hid f7
    have F8 := Lib.hid f8
    have F9 := Lib.hid f9
    have F10 := Lib.hid f10
    have F11 := Lib.hid f11
    have F12 := Lib.hid f12
    have F13 := Lib.hid f13
    have F14 := Lib.hid f14
    have F15 := Lib.hid f15
    have F16 := Lib.hid f16
    have F17 := Lib.hid f17
    have F18 := Lib.hid f18
    have F19 := Lib.hid f19
    have F20 := Lib.hid f20
    have F21 := Lib.hid f21
    have HW := Lib.hid hw
    clear hw f0 f1 f2 f3 f4 f5 f6 f7 f8 f9 f10 f11 f12 f13 f14 f15 f16 f17 f18 f19 f20 f21
    go_simp
    refine hK.out _ _ ?_
    exact ⟨_, _, _, _, _, _, _, _, _, _, _, _, _, _, _, _, _, _, _, _, _, rfl, Kn.past HW.out _, fun hk => (F0.out ((upd_ne (by decide)).symm.trans hk)), fun hk => (F1.out ((upd_ne (by decide)).symm.trans hk)), fun hk => (F2.out ((upd_ne (by decide)).symm.trans hk)), fun hk => (F3.out ((upd_ne (by decide)).symm.trans hk)), fun hk => (F4.out ((upd_ne (by decide)).symm.trans hk)), fun hk => (F5.out ((upd_ne (by decide)).symm.trans hk)), fun hk => (F6.out ((upd_ne (by decide)).symm.trans hk)), fun hk => (F7.out ((upd_ne (by decide)).symm.trans hk)), fun hk => (F8.out ((upd_ne (by decide)).symm.trans hk)), fun hk => (F9.out ((upd_ne (by decide)).symm.trans hk)), fun hk => (F10.out ((upd_ne (by decide)).symm.trans hk)), fun hk => (F11.out ((upd_ne (by decide)).symm.trans hk)), fun hk => (F12.out ((upd_ne (by decide)).symm.trans hk)), fun hk => (F13.out ((upd_ne (by decide)).symm.trans hk)), fun hk => (F14.out ((upd_ne (by decide)).symm.trans hk)), fun hk => (F15.out ((upd_ne (by decide)).symm.trans hk)), fun hk => (F16.out ((upd_ne (by decide)).symm.trans hk)), fun hk => (F17.out ((upd_ne (by decide)).symm.trans hk)), fun hk => (F18.out ((upd_ne (by decide)).symm.trans hk)), fun hk => (F19.out ((upd_ne (by decide)).symm.trans hk)), fun _ => ⟨_, rfl, Kn.lt1 HW.out, _, Box.fresh _ _ _⟩, fun hk => (absurd (hL.symm.trans ((F21.out ((upd_ne (by decide)).symm.trans hk))).1) (by decide))⟩
  · rintro L A X ⟨v3, v7, v8, v9, v10, v11, v12, v13, v14, v15, v16, v17, v18, v19, v20, v21, v22, v23, v24, v25, v26, rfl, hw, f0, f1, f2, f3, f4, f5, f6, f7, f8, f9, f10, f11, f12, f13, f14, f15, f16, f17, f18, f19, f20, f21⟩ hL hdep K hK
    simp at hdep
    have d20 : L 20 = true := by first | exact hdep | exact hdep.1 | exact hdep.2 | exact hdep.2.1 | exact hdep.2.2 | exact hdep.2.2.1 | exact hdep.2.2.2 | exact hdep.2.2.2.1 | exact hdep.2.2.2.2 | exact hdep.2.2.2.2.1 | exact hdep.2.2.2.2.2 | exact hdep.2.2.2.2.2.1 | exact hdep.2.2.2.2.2.2
    have d19 : L 19 = true := by first | exact hdep | exact hdep.1 | exact hdep.2 | exact hdep.2.1 | exact hdep.2.2 | exact hdep.2.2.1 | exact hdep.2.2.2 | exact hdep.2.2.2.1 | exact hdep.2.2.2.2 | exact hdep.2.2.2.2.1 | exact hdep.2.2.2.2.2 | exact hdep.2.2.2.2.2.1 | exact hdep.2.2.2.2.2.2
    obtain ⟨b20, rfl, hl20, cc20, hB20⟩ := (f20 d20)
    have e19 := (f19 d19); subst e19
    clear hdep
    have t0 := hB20.thaw 0
    have c := hB20.cell 0 _ rfl
    have HB := Lib.hid hB20
    have HD := Lib.hid d20
    clear hB20
    have F0 := Lib.hid f0
    have F1 := Lib.hid f1
    have F2 := Lib.hid f2
    have F3 := Lib.hid f3
    have F4 := Lib.hid f4
    have F5 := Lib.hid f5
    have F6 := Lib.hid f6
    have F7 := Lib.hid f7
    have F8 := Lib.hid f8
    have F9 := Lib.hid f9
    have F10 := Lib.hid f10
    have F11 := Lib.hid f11
    have F12 := Lib.hid f12
    have F13 := Lib.hid f13
    have F14 := Lib.hid f14
    have F15 := Lib.hid f15
    have F16 := Lib.hid f16
    have F17 := Lib.hid f17
    have F18 := Lib.hid f18
    have F19 := Lib.hid f19
    have F20 := Lib.hid f20
    have F21 := Lib.hid f21
    have HW := Lib.hid hw
    clear hw f0 f1 f2 f3 f4 f5 f6 f7 f8 f9 f10 f11 f12 f13 f14 f15 f16 f17 f18 f19 f20 f21
    go_simp
    refine hK.out _ _ ?_
    have hB2 := HB.out.put 0 (.string (S1 ++ ⟨#[32]⟩ ++ S2 ++ ⟨#[32]⟩ ++ S3 ++ ⟨#[32]⟩ ++ S4))
    have hw2 : Kn w [(w.heap.size, 37, x.cs s q)] _ := Kn.put HW.out (p := ⟨b20, 0, none⟩) (Nat.le_of_lt hl20) (fun t ht => by simp at ht; subst ht; show w.heap.size ≠ b20; omega) (.string (S1 ++ ⟨#[32]⟩ ++ S2 ++ ⟨#[32]⟩ ++ S3 ++ ⟨#[32]⟩ ++ S4))
    exact ⟨_, _, _, _, _, _, _, _, _, _, _, _, _, _, _, _, _, _, _, _, _, rfl, hw2, fun hk => (F0.out ((upd_ne (by decide)).symm.trans hk)), fun hk => (F1.out ((upd_ne (by decide)).symm.trans hk)), fun hk => (F2.out ((upd_ne (by decide)).symm.trans hk)), fun hk => (F3.out ((upd_ne (by decide)).symm.trans hk)), fun hk => (F4.out ((upd_ne (by decide)).symm.trans hk)), fun hk => (F5.out ((upd_ne (by decide)).symm.trans hk)), fun hk => (F6.out ((upd_ne (by decide)).symm.trans hk)), fun hk => (F7.out ((upd_ne (by decide)).symm.trans hk)), fun hk => (F8.out ((upd_ne (by decide)).symm.trans hk)), fun hk => (F9.out ((upd_ne (by decide)).symm.trans hk)), fun hk => (F10.out ((upd_ne (by decide)).symm.trans hk)), fun hk => (F11.out ((upd_ne (by decide)).symm.trans hk)), fun hk => (F12.out ((upd_ne (by decide)).symm.trans hk)), fun hk => (F13.out ((upd_ne (by decide)).symm.trans hk)), fun hk => (F14.out ((upd_ne (by decide)).symm.trans hk)), fun hk => (F15.out ((upd_ne (by decide)).symm.trans hk)), fun hk => (F16.out ((upd_ne (by decide)).symm.trans hk)), fun hk => (F17.out ((upd_ne (by decide)).symm.trans hk)), fun hk => (F18.out ((upd_ne (by decide)).symm.trans hk)), fun _ => rfl, fun hk => ⟨b20, rfl, hl20, _, hB2⟩, fun _ => ⟨(upd_ne (by decide)).trans HD.out, b20, rfl, hl20, hB2⟩⟩
  · rintro L A X ⟨v3, v7, v8, v9, v10, v11, v12, v13, v14, v15, v16, v17, v18, v19, v20, v21, v22, v23, v24, v25, v26, rfl, hw, f0, f1, f2, f3, f4, f5, f6, f7, f8, f9, f10, f11, f12, f13, f14, f15, f16, f17, f18, f19, f20, f21⟩ hall
    obtain ⟨-, b, rfl, hl, hB⟩ := f21 (hall 21 (by decide))
    have HX1 := Lib.hid (show Kn w [(w.heap.size, 37, x.cs s q)] X from hw)
    have hlX := Kn.lt1 HX1.out
    have hbX := hB.lt
    rw [HE.out] at hB
    obtain ⟨hd, hhd⟩ : ∃ hd, headL x = hd := ⟨_, rfl⟩
    rw [hhd] at hB
    have hz : hd.length ≤ 16 := hhd ▸ head_len x
    have HHD := Lib.hid hhd
    clear f0 f1 f2 f3 f4 f5 f6 f7 f8 f9 f10 f11 f12 f13 f14 f15 f16 f17 f18 f19 f20 f21 hall hw hkd hkd' wk HKN y1 y2 y3 y4 y5 y6 HE G1 G2 G3 HK0 hhd hY
    obtain ⟨W0, hW0⟩ : ∃ W0, (X.alloc (.cells (x.cs s q) 37)).alloc (.cells #[.slice (some ⟨X.heap.size, 0, none⟩) 1 1] 25) = W0 := ⟨_, rfl⟩
    have hsz : W0.heap.size = X.heap.size + 2 := by rw [← hW0]; simp
    have hB0 : Below X.heap.size X W0 := by rw [← hW0]; exact ((Below.refl _ X).alloc (Nat.le_refl _) _).alloc (by simp) _
    have bT : Box W0 X.heap.size 37 (x.cs s q) := by rw [← hW0]; exact (Box.fresh X 37 (x.cs s q)).past _
    have bS : Box W0 (X.heap.size + 1) 25 #[.slice (some ⟨X.heap.size, 0, none⟩) 1 1] := by
      rw [← hW0]
      have := Box.fresh (X.alloc (.cells (x.cs s q) 37)) 25 #[.slice (some ⟨X.heap.size, 0, none⟩) 1 1]
      simp only [World.size_alloc] at this
      exact this
    have hwW : Below w.heap.size w W0 := (HX1.out.stay hB0).1
    have HSQ := Lib.hid (iter_stopsB 8 (by omega) (X.heap.size + 1) X.heap.size 0 1 b [x] (by simp) W0 _ _ (hB.stay hB0) (bS.cell 0 _ rfl) (tb_one (HR.out.stay hwW) (HQ.out.stay hwW) bT))
    have bZ := Lib.hid (And.intro (hB.stay hB0) ((HX1.out.stay hB0).box (b := w.heap.size) (T := 37) (vs := x.cs s q) (by simp)))
    have HWW := Lib.hid hwW
    have HRK := Lib.hid (show (rts [x]).length ≤ 4 by rw [rts_ok HX.out]; exact okT_slots HX.out)
    have c0 := HX1.out.c (b := w.heap.size) (T := 37) (vs := x.cs s q) (by simp) 0 _ rfl
    have c1 := HX1.out.c (b := w.heap.size) (T := 37) (vs := x.cs s q) (by simp) 1 _ rfl
    have c2 := HX1.out.c (b := w.heap.size) (T := 37) (vs := x.cs s q) (by simp) 2 _ rfl
    have c3 := HX1.out.c (b := w.heap.size) (T := 37) (vs := x.cs s q) (by simp) 3 _ rfl
    have c4 := HX1.out.c (b := w.heap.size) (T := 37) (vs := x.cs s q) (by simp) 4 _ rfl
    have c5 := HX1.out.c (b := w.heap.size) (T := 37) (vs := x.cs s q) (by simp) 5 _ rfl
    have c6 := HX1.out.c (b := w.heap.size) (T := 37) (vs := x.cs s q) (by simp) 6 _ rfl
    have c7 := HX1.out.c (b := w.heap.size) (T := 37) (vs := x.cs s q) (by simp) 7 _ rfl
    clear hB0 bT bS hwW hB
    gi_wp2_with fail
    refine ⟨trivial, ?_⟩
    refine (callsIn_wide.2 (rightsOf_any _ _ _ _)).mono ?_
    rintro e w' ⟨rfl, rfl⟩
    clear c0 c1 c2 c3 c4 c5 c6 c7
    gi_wp2_with fail
    refine wpIn_rangeFunc_ownH rfl (by omega) (gf := 100) (lb := #[.pointer (some ⟨X.heap.size + 1, 0, none⟩)]) rfl trivial (enters_of Tryd.func100 (by kernel_rfl) rfl)
      HSQ.out KpB.trans (fun W l o o' hl _ _ _ => KpB.put W l o' hl) (Below.refl _ _) (fun _ => rfl)
      (fun pre W => (Box W b 9 #[.string (B (hd ++ slotsL pre))] ∧ Box W w.heap.size 37 (x.cs s q)) ∧ Below w.heap.size W0 W)
      (fun c pre W => False)
      (OwnFrom.and (OwnFrom.and (Own.from (own_str _ _ _) _) (Own.from (box_own _ _ _) _)) (ownFrom_below (by omega) (by omega)))
      (fun c => ownFrom_pure _ _)
      ⟨⟨by simpa [slotsL] using bZ.out.1, bZ.out.2⟩, Below.refl _ _⟩
      (fun r a' W => ∃ Bx, w.heap.size < Bx ∧ Bx ≠ b ∧ Box W Bx 44 r.cs ∧ a' = { tmps := #[x.val s q, .pointer (some ⟨w.heap.size, 0, none⟩), .string ⟨#[]⟩, .pointer (some ⟨b, 0, none⟩), .pointer (some ⟨Bx, 0, none⟩), undef, undef, v7, v8, v9, v10, v11, v12, v13, v14, v15, v16, v17, v18, v19, v20, v21, v22, v23, v24, v25, v26, x.val s q, .slice (some ⟨X.heap.size, 0, none⟩) 1 1, .func (.func 100) #[] #[.pointer (some ⟨X.heap.size + 1, 0, none⟩)], rgt r.t r.v r.r r.w r.k, undef, undef, undef, undef, undef, undef, undef, undef, undef, undef, undef, undef, undef, undef, undef, undef, undef, undef, undef, undef, undef, undef, undef, undef, undef, undef, undef, undef], defers := [] })
      (fun r a' _ X Y row hs hg hr => by obtain ⟨Bx, e1, e2, e3, e4⟩ := hs; exact ⟨Bx, e1, e2, box_own Bx 44 r.cs () X Y row e3 hg (fun r e => (hr r e).2), e4⟩)
      ?assign ?body ?done ?stop
    case assign =>
      rintro l pre r W K ⟨⟨bZ1, bX1⟩, hB1⟩ hK
      have HI := Lib.hid (And.intro (And.intro bZ1 bX1) hB1)
      clear bZ1 bX1 hB1
      gi_wp2
      exact hK _ _ (keeps_of ((Below.refl _ _).alloc (Nat.le_refl _) _)) (KpB.below ((Below.refl _ W).alloc (Nat.le_refl _) _)) ⟨⟨HI.out.1.1.past _, HI.out.1.2.past _⟩, HI.out.2.alloc (by have := HI.out.2.size; omega) _⟩ ⟨W.heap.size, HI.out.1.2.lt, (by have := HI.out.1.1.lt; omega), Box.fresh W 44 _, rfl⟩
    case body =>
      rintro l pre r a' W hl2 ⟨rr, hr⟩ ⟨⟨bZ1, bX1⟩, hB1⟩ ⟨Bx, hBx, hne, bX, rfl⟩ hlt
      have d0 := bX.cell 0 _ rfl
      have d1 := bX.cell 1 _ rfl
      have d2 := bX.cell 2 _ rfl
      have d3 := bX.cell 3 _ rfl
      have d4 := bX.cell 4 _ rfl
      have zk := slotsL_len pre
      have zk2 : pre.length ≤ 4 := by have := HRK.out; omega
      obtain ⟨pr, hpre⟩ : ∃ pr, B (hd ++ slotsL pre) = pr := ⟨_, rfl⟩
      have zp : pr.size ≤ 50 := by rw [← hpre, B_size]; simp only [List.length_append]; omega
      obtain ⟨tr, htr⟩ : ∃ tr, txtR r.t r.v r.r r.w r.k = tr := ⟨_, rfl⟩
      have zt : tr.size ≤ 6 := by rw [← htr]; exact txtR_len r
      have y1 : ¬ 9223372036854775807 < 1 + tr.size := by omega
      have y2 : ¬ 9223372036854775807 < pr.size + (1 + tr.size) := by omega
      have HF := Lib.hid (show pr ++ (⟨#[32]⟩ ++ tr) = B (hd ++ slotsL (pre ++ [r])) by
        rw [← hpre, ← htr, txtR_B, show (⟨#[32]⟩ : ByteArray) = B [32] from rfl]
        simp only [B_app, slotsL, List.flatMap_append, List.flatMap_cons, List.flatMap_nil, List.append_nil, List.append_assoc, List.cons_append, List.nil_append])
      rw [hpre] at bZ1
      have HT := Lib.hid htr
      have e0 := bZ1.cell 0 _ rfl
      have f0 := bZ1.thaw 0
      have HI := Lib.hid (And.intro (And.intro bZ1 bX1) hB1)
      clear zk zk2 hpre zp zt htr bZ1 bX1 hB1 hr hlt bX hBx hne
      gi_wp2_with fail
      gi_region_with (refine ⟨trivial, ?_⟩; refine (CallsIn.inRound l (callsIn_wide.2 (implRText_val HT.out _))).mono ?_; rintro e y ⟨rfl, hb⟩; have bZ2 := HI.out.1.1.drew.stay hb; have e0' := bZ2.cell 0 _ rfl; have f0' := bZ2.thaw 0; have HB := Lib.hid (((Below.refl _ W).drew).trans hb); have HZ2 := Lib.hid bZ2; clear hb bZ2)
      all_goals
        gi_wp2
        refine ⟨(keeps_of HB.out).trans ((KeepsOthers.setCell _ _ _).from _), (KpB.below HB.out).trans (KpB.set _ _), ⟨⟨?_, (HI.out.1.2.stay HB.out).other (p := ⟨b, 0, none⟩) (by show w.heap.size ≠ b; omega) _⟩, (goB2 HI.out.2 (by have := HI.out.2.size; omega) HB.out).setCell (p := ⟨b, 0, none⟩) (Nat.le_of_lt hl) _⟩⟩
        rw [← HF.out]
        simpa using HZ2.out.put 0 (.string (pr ++ (⟨#[32]⟩ ++ tr)))
    case done =>
      rintro D zs W hD rfl ⟨⟨bZ1, bX1⟩, hB1⟩ hK
      rw [rts_ok HX.out] at bZ1
      obtain ⟨h2, hh2⟩ : ∃ h2, hd ++ slotsL x.slots = h2 := ⟨_, rfl⟩
      have hz2 : h2.length ≤ 50 := by rw [← hh2, List.length_append]; have := slotsL_len x.slots; have := okT_slots HX.out; omega
      rw [hh2] at bZ1
      have HH2 := Lib.hid hh2
      have hlW : b ≠ D := fun e => by
        subst e
        rw [show W.heap[b]? = _ from bZ1] at hK
        cases hK
      have HI := Lib.hid (And.intro (And.intro bZ1 bX1) (And.intro hB1 hK))
      obtain ⟨hq3, hqr⟩ := x_okT_queue HX.out
      have HQB := Lib.hid hqr
      have qn := HQ.out.len
      have c0 := bX1.cell 0 _ rfl
      have c5 : W.cell? ⟨w.heap.size, 6, none⟩ = some (.slice q.a q.n q.c) := bX1.cell 6 _ rfl
      rw [qn] at c5
      clear qn
      clear bZ1 bX1 hB1 hK hh2 hqr hz HSQ bZ
      gi_wp2
      gi_loopw [39] (fun i wr => ∃ k : Nat, k ≤ x.queue.length ∧ i = .int .i64 k ∧ (Box wr b 9 #[.string (B (h2 ++ queueL (x.queue.take k)))] ∧ Box wr w.heap.size 37 (x.cs s q)) ∧ Below w.heap.size W0 wr ∧ wr.heap[D]? = some (.deferred (some []))) (fun i _ => x.queue.length - (intOf i).toNat)
      case atStart => exact ⟨0, by omega, rfl, ⟨by simpa [queueL] using HI.out.1.1, HI.out.1.2⟩, HI.out.2.1, HI.out.2.2⟩
      case round =>
        clear c0 c5 HI
        obtain ⟨k, hk, rfl, ⟨bZ1, bX1⟩, hB1, hK⟩ := hrel
        have c0 := bX1.cell 0 _ rfl
        have c6 := bX1.cell 7 _ rfl
        have HQ2 := Lib.hid (HQ.out.stay (HWW.out.trans hB1))
        have HTP2 := Lib.hid (HTP.out.stay (HWW.out.trans hB1))
        by_cases hlt : k < x.queue.length
        · have hlt' : (k : Int) < (x.queue.length : Int) := by omega
          obtain ⟨g, o, ea, d0⟩ := HQ2.out.at hlt
          have OR := Lib.hid (HQB.out (x.queue[k]) (List.getElem_mem hlt))
          have HTK := Lib.hid (queueL_more x.queue k hlt)
          obtain ⟨r, hr⟩ : ∃ r, x.queue[k] = r := ⟨_, rfl⟩
          rw [hr] at d0 OR HTK
          have zk := queueL_len (x.queue.take k)
          have zk2 : (x.queue.take k).length = k := by rw [List.length_take]; omega
          obtain ⟨pr, hpre⟩ : ∃ pr, B (h2 ++ queueL (x.queue.take k)) = pr := ⟨_, rfl⟩
          have zp : pr.size ≤ 90 := by rw [← hpre, B_size]; simp only [List.length_append]; omega
          obtain ⟨tr, htr⟩ : ∃ tr, B (decL r) = tr := ⟨_, rfl⟩
          have zt : tr.size ≤ 2 := by rw [← htr]; exact dec_len r
          have y1 : ¬ 9223372036854775807 < 2 + tr.size := by omega
          have y2 : ¬ 9223372036854775807 < pr.size + (2 + tr.size) := by omega
          have HF := Lib.hid (show pr ++ (⟨#[32, 60]⟩ ++ tr) = B (h2 ++ queueL (x.queue.take (k + 1))) by
            rw [← hpre, ← htr, HTK.out, show (⟨#[32, 60]⟩ : ByteArray) = B [32, 60] from rfl]
            simp only [B_app, List.append_assoc, List.cons_append, List.nil_append])
          have HT := Lib.hid (show ∀ y, Below wr.heap.size wr y → Calls Tryd.prog 48 #[.int .i64 r] y fun e w' => e = .returned (.string tr) ∧ Below y.heap.size y w' from fun y h => itoa_val htr _ (HTP2.out.stay h) (by have := OR.out; omega))
          rw [hpre] at bZ1
          have e0 := bZ1.cell 0 _ rfl
          have f0 := bZ1.thaw 0
          have HI := Lib.hid (And.intro (And.intro bZ1 bX1) (And.intro hB1 hK))
          have BZ := Lib.hid bZ1
          clear zk zk2 hpre zp zt htr hr bZ1 bX1 hB1 hK
          gi_wp2_with fail
          clear ea
          refine wpIn_region_steps (by kernel_rfl) (by kernel_rfl) (by kernel_rfl) (TP8 w X wr x s q b D pr tr v7 v8 v9 v10 v11 v12 v13 v14 v15 v16 v17 v18 v19 v20 v21 v22 v23 v24 v25 v26 g o k r) ?_ ⟨?_, ?_, ?_, ?_, ?_, ?_, trivial⟩ ?_
          · exact ⟨_, _, _, _, _, _, rfl, (fun _ => (Below.refl _ _).drew), fun h => absurd h (by decide), fun h => absurd h (by decide), fun h => absurd h (by decide), fun h => absurd h (by decide), fun h => absurd h (by decide), fun h => absurd h (by decide)⟩
          · rintro L A Z ⟨v43, v44, v45, v46, v47, v48, rfl, hw, f0, f1, f2, f3, f4, f5⟩ hL hdep K hK
            clear hdep
            have h5 : L 5 = false := by
              cases h5 : L 5 with
              | false => rfl
              | true => exact absurd (hL.symm.trans (f5 h5).1) (by decide)
            have hz0 := hw h5
            have bb := BZ.out.stay hz0
            have c := bb.cell 0 _ rfl
            clear bb hz0
            have F0 := Lib.hid f0
            have F1 := Lib.hid f1
            have F2 := Lib.hid f2
            have F3 := Lib.hid f3
            have F4 := Lib.hid f4
            have F5 := Lib.hid f5
            have HW := Lib.hid hw
            clear hw f0 f1 f2 f3 f4 f5
            go_simp
            refine hK.out _ _ ?_
            exact ⟨_, _, _, _, _, _, rfl, (fun h => HW.out ((upd_ne (by decide)).symm.trans h)), fun _ => rfl, fun hk => (F1.out ((upd_ne (by decide)).symm.trans hk)), fun hk => (F2.out ((upd_ne (by decide)).symm.trans hk)), fun hk => (F3.out ((upd_ne (by decide)).symm.trans hk)), fun hk => (F4.out ((upd_ne (by decide)).symm.trans hk)), fun hk => (let ⟨h0, h2, z, hz, e⟩ := (F5.out ((upd_ne (by decide)).symm.trans hk)); ⟨upd_mono h0, upd_mono h2, z, hz, e⟩)⟩
          · rintro L A Z ⟨v43, v44, v45, v46, v47, v48, rfl, hw, f0, f1, f2, f3, f4, f5⟩ hL hdep K hK
            clear hdep
            have F0 := Lib.hid f0
            have F1 := Lib.hid f1
            have F2 := Lib.hid f2
            have F3 := Lib.hid f3
            have F4 := Lib.hid f4
            have F5 := Lib.hid f5
            have HW := Lib.hid hw
            clear hw f0 f1 f2 f3 f4 f5
            go_simp
            refine hK.out _ _ ?_
            exact ⟨_, _, _, _, _, _, rfl, (fun h => HW.out ((upd_ne (by decide)).symm.trans h)), fun hk => (F0.out ((upd_ne (by decide)).symm.trans hk)), fun _ => rfl, fun hk => (F2.out ((upd_ne (by decide)).symm.trans hk)), fun hk => (F3.out ((upd_ne (by decide)).symm.trans hk)), fun hk => (F4.out ((upd_ne (by decide)).symm.trans hk)), fun hk => (let ⟨h0, h2, z, hz, e⟩ := (F5.out ((upd_ne (by decide)).symm.trans hk)); ⟨upd_mono h0, upd_mono h2, z, hz, e⟩)⟩
          · rintro L A Z ⟨v43, v44, v45, v46, v47, v48, rfl, hw, f0, f1, f2, f3, f4, f5⟩ hL hdep K hK
            simp at hdep
            have d1 : L 1 = true := by first | exact hdep | exact hdep.1 | exact hdep.2 | exact hdep.2.1 | exact hdep.2.2 | exact hdep.2.2.1 | exact hdep.2.2.2
            have e1 := (f1 d1); subst e1
            clear hdep
            have h5 : L 5 = false := by
              cases h5 : L 5 with
              | false => rfl
              | true => exact absurd (hL.symm.trans (f5 h5).2.1) (by decide)
            have hz0 := hw h5
            have HZ0 := Lib.hid hz0
            clear hz0
            have F0 := Lib.hid f0
            have F1 := Lib.hid f1
            have F2 := Lib.hid f2
            have F3 := Lib.hid f3
            have F4 := Lib.hid f4
            have F5 := Lib.hid f5
            have HW := Lib.hid hw
            clear hw f0 f1 f2 f3 f4 f5
            go_simp
            gi_wp2_with fail
            refine ⟨trivial, ?_⟩
            refine (callsIn_wide.2 (HT.out _ HZ0.out)).mono ?_
            rintro e y ⟨rfl, hb⟩
            go_simp
            refine hK.out _ _ ?_
            exact ⟨_, _, _, _, _, _, rfl, (fun h => ((HW.out ((upd_ne (by decide)).symm.trans h)).trans (hb.mono (HW.out ((upd_ne (by decide)).symm.trans h)).size))), fun hk => (F0.out ((upd_ne (by decide)).symm.trans hk)), fun _ => rfl, fun _ => rfl, fun hk => (F3.out ((upd_ne (by decide)).symm.trans hk)), fun hk => (F4.out ((upd_ne (by decide)).symm.trans hk)), fun hk => (absurd (hL.symm.trans ((F5.out ((upd_ne (by decide)).symm.trans hk))).2.1) (by decide))⟩
          · rintro L A Z ⟨v43, v44, v45, v46, v47, v48, rfl, hw, f0, f1, f2, f3, f4, f5⟩ hL hdep K hK
            simp at hdep
            have d2 : L 2 = true := by first | exact hdep | exact hdep.1 | exact hdep.2 | exact hdep.2.1 | exact hdep.2.2 | exact hdep.2.2.1 | exact hdep.2.2.2
            have e2 := (f2 d2); subst e2
            clear hdep
            have F0 := Lib.hid f0
            have F1 := Lib.hid f1
            have F2 := Lib.hid f2
            have F3 := Lib.hid f3
            have F4 := Lib.hid f4
            have F5 := Lib.hid f5
            have HW := Lib.hid hw
            clear hw f0 f1 f2 f3 f4 f5
            go_simp
            refine hK.out _ _ ?_
            exact ⟨_, _, _, _, _, _, rfl, (fun h => HW.out ((upd_ne (by decide)).symm.trans h)), fun hk => (F0.out ((upd_ne (by decide)).symm.trans hk)), fun hk => (F1.out ((upd_ne (by decide)).symm.trans hk)), fun _ => rfl, fun _ => rfl, fun hk => (F4.out ((upd_ne (by decide)).symm.trans hk)), fun hk => (let ⟨h0, h2, z, hz, e⟩ := (F5.out ((upd_ne (by decide)).symm.trans hk)); ⟨upd_mono h0, upd_mono h2, z, hz, e⟩)⟩
          · rintro L A Z ⟨v43, v44, v45, v46, v47, v48, rfl, hw, f0, f1, f2, f3, f4, f5⟩ hL hdep K hK
            simp at hdep
            have d0 : L 0 = true := by first | exact hdep | exact hdep.1 | exact hdep.2 | exact hdep.2.1 | exact hdep.2.2 | exact hdep.2.2.1 | exact hdep.2.2.2
            have d3 : L 3 = true := by first | exact hdep | exact hdep.1 | exact hdep.2 | exact hdep.2.1 | exact hdep.2.2 | exact hdep.2.2.1 | exact hdep.2.2.2
            have e0 := (f0 d0); subst e0
            have e3 := (f3 d3); subst e3
            clear hdep
            have F0 := Lib.hid f0
            have F1 := Lib.hid f1
            have F2 := Lib.hid f2
            have F3 := Lib.hid f3
            have F4 := Lib.hid f4
            have F5 := Lib.hid f5
            have HW := Lib.hid hw
            clear hw f0 f1 f2 f3 f4 f5
            go_simp
            refine hK.out _ _ ?_
            exact ⟨_, _, _, _, _, _, rfl, (fun h => HW.out ((upd_ne (by decide)).symm.trans h)), fun _ => rfl, fun hk => (F1.out ((upd_ne (by decide)).symm.trans hk)), fun hk => (F2.out ((upd_ne (by decide)).symm.trans hk)), fun _ => rfl, fun _ => rfl, fun hk => (let ⟨h0, h2, z, hz, e⟩ := (F5.out ((upd_ne (by decide)).symm.trans hk)); ⟨upd_mono h0, upd_mono h2, z, hz, e⟩)⟩
          · rintro L A Z ⟨v43, v44, v45, v46, v47, v48, rfl, hw, f0, f1, f2, f3, f4, f5⟩ hL hdep K hK
            simp at hdep
            have d4 : L 4 = true := by first | exact hdep | exact hdep.1 | exact hdep.2 | exact hdep.2.1 | exact hdep.2.2 | exact hdep.2.2.1 | exact hdep.2.2.2 | exact hdep.2.2.2.1 | exact hdep.2.2.2.2 | exact hdep.2.2.2.2.1 | exact hdep.2.2.2.2.2 | exact hdep.2.2.2.2.2.1 | exact hdep.2.2.2.2.2.2
            have d0 : L 0 = true := by first | exact hdep | exact hdep.1 | exact hdep.2 | exact hdep.2.1 | exact hdep.2.2 | exact hdep.2.2.1 | exact hdep.2.2.2 | exact hdep.2.2.2.1 | exact hdep.2.2.2.2 | exact hdep.2.2.2.2.1 | exact hdep.2.2.2.2.2 | exact hdep.2.2.2.2.2.1 | exact hdep.2.2.2.2.2.2
            have d2 : L 2 = true := by first | exact hdep | exact hdep.1 | exact hdep.2 | exact hdep.2.1 | exact hdep.2.2 | exact hdep.2.2.1 | exact hdep.2.2.2 | exact hdep.2.2.2.1 | exact hdep.2.2.2.2 | exact hdep.2.2.2.2.1 | exact hdep.2.2.2.2.2 | exact hdep.2.2.2.2.2.1 | exact hdep.2.2.2.2.2.2
            have e4 := (f4 d4); subst e4
            have e0 := (f0 d0); subst e0
            have e2 := (f2 d2); subst e2
            clear hdep
            have h5 : L 5 = false := hL
            have hz0 := hw h5
            have bb := BZ.out.stay hz0
            have t0 := bb.thaw 0
            have c := bb.cell 0 _ rfl
            have HZ0 := Lib.hid hz0
            have HD0 := Lib.hid d0
            have HD2 := Lib.hid d2
            clear bb hz0
            have F0 := Lib.hid f0
            have F1 := Lib.hid f1
            have F2 := Lib.hid f2
            have F3 := Lib.hid f3
            have F4 := Lib.hid f4
            have F5 := Lib.hid f5
            have HW := Lib.hid hw
            clear hw f0 f1 f2 f3 f4 f5
            go_simp
            refine hK.out _ _ ?_
            exact ⟨_, _, _, _, _, _, rfl, (fun h => absurd ((upd_self L 5).symm.trans h) (by decide)), fun _ => rfl, fun hk => (F1.out ((upd_ne (by decide)).symm.trans hk)), fun _ => rfl, fun hk => (F3.out ((upd_ne (by decide)).symm.trans hk)), fun _ => rfl, fun _ => ⟨upd_mono HD0.out, upd_mono HD2.out, _, HZ0.out, rfl⟩⟩
          · rintro L A Z ⟨v43, v44, v45, v46, v47, v48, rfl, hw, f0, f1, f2, f3, f4, f5⟩ hall
            obtain ⟨_, _, z, hz0, rfl⟩ := f5 (hall 5 (by decide))
            clear f0 f1 f2 f3 f4 f5 hall hw
            have HB := Lib.hid hz0
            clear hz0
            have HZ2 := Lib.hid (HI.out.1.1.stay HB.out)
            gi_wp2
            go_roundw
            case rel =>
              refine ⟨_, _, _, _, _, _, _, _, _, _, _, ⟨k + 1, by omega, ?_, ⟨?_, (HI.out.1.2.stay HB.out).other (p := ⟨b, 0, none⟩) (by show w.heap.size ≠ b; omega) _⟩, (goB2 HI.out.2.1 (by have := HI.out.2.1.size; omega) HB.out).setCell (p := ⟨b, 0, none⟩) (Nat.le_of_lt hl) _, (Below.heap_setCell _ ⟨b, 0, none⟩ _ D (Ne.symm hlW)).trans ((HB.out.block D (Array.getElem?_eq_some_iff.1 HI.out.2.2).1).trans HI.out.2.2)⟩, rfl⟩
              · go_num
              rw [← HF.out]
              simpa using HZ2.out.put 0 (.string (pr ++ (⟨#[32, 60]⟩ ++ tr)))
            case measure => simp [intOf]; omega
        · have hlt' : ¬ (k : Int) < (x.queue.length : Int) := by omega
          have HJ := Lib.hid (show x.queue.take k = x.queue from List.take_of_length_le (by omega))
          rw [HJ.out] at bZ1
          obtain ⟨pr, hpre⟩ : ∃ pr, B (h2 ++ queueL x.queue) = pr := ⟨_, rfl⟩
          have zp : pr.size ≤ 90 := by rw [← hpre, B_size, List.length_append]; have := queueL_len x.queue; omega
          rw [hpre] at bZ1
          have e0 := bZ1.cell 0 _ rfl
          have f0 := bZ1.thaw 0
          by_cases h5 : x.kind = 5
          · have TO := Lib.hid (okT_to HX.out h5)
            have c0' : wr.cell? ⟨w.heap.size, 0, none⟩ = some (.int .i64 5) := by rw [← h5]; exact c0
            obtain ⟨tr, htr⟩ : ∃ tr, B (decL x.to) = tr := ⟨_, rfl⟩
            have zt : tr.size ≤ 2 := by rw [← htr]; exact dec_len _
            have y1 : ¬ 9223372036854775807 < 2 + tr.size := by omega
            have y2 : ¬ 9223372036854775807 < pr.size + (2 + tr.size) := by omega
            have HF := Lib.hid (show ∃ t, pr ++ (⟨#[32, 62]⟩ ++ tr) = B t ∧ t ++ [10] = thingL x by
              refine ⟨h2 ++ queueL x.queue ++ 32 :: 62 :: decL x.to, ?_, ?_⟩
              · rw [← hpre, ← htr, show (⟨#[32, 62]⟩ : ByteArray) = B [32, 62] from rfl]
                simp only [B_app, List.append_assoc, List.cons_append, List.nil_append]
              · rw [thingL_head, if_pos h5, ← HH2.out, HHD.out]
                simp only [List.append_assoc, List.cons_append])
            have HT := Lib.hid (show ∀ y, Below wr.heap.size wr y → Calls Tryd.prog 48 #[.int .i64 x.to] y fun e w' => e = .returned (.string tr) ∧ Below y.heap.size y w' from fun y h => itoa_val htr _ (HTP2.out.stay h) (by have := TO.out; omega))
            have HI := Lib.hid (And.intro (And.intro bZ1 bX1) (And.intro hB1 hK))
            have BZ := Lib.hid bZ1
            have BX := Lib.hid bX1
            clear hpre zp zt htr c0 h5 hlt HJ hk bZ1 bX1 hB1 hK
            gi_wp2_with fail
            refine wpIn_region_steps (by kernel_rfl) (by kernel_rfl) (by kernel_rfl) (TP11 w X wr x s q b D pr tr v7 v8 v9 v10 v11 v12 v13 v14 v15 v16 v17 v18 v19 v20 v21 v22 v23 v24 v25 v26 ) ?_ ⟨?_, ?_, ?_, ?_, ?_, ?_, ?_, trivial⟩ ?_
            · exact ⟨_, _, _, _, _, _, _, _, _, _, _, _, _, _, _, _, _, _, _, _, _, _, _, _, _, _, _, _, _, _, _, _, _, _, _, _, _, _, _, _, _, _, _, _, _, _, rfl, (fun _ => (Below.refl _ _).drew), fun h => absurd h (by decide), fun h => absurd h (by decide), fun h => absurd h (by decide), fun h => absurd h (by decide), fun h => absurd h (by decide), fun h => absurd h (by decide), fun h => absurd h (by decide)⟩
            · rintro L A Z ⟨v6, v7, v8, v9, v10, v11, v12, v13, v14, v15, v16, v17, v18, v19, v20, v21, v22, v23, v24, v25, v26, v27, v28, v29, v36, v37, v38, v39, v40, v41, v42, v43, v44, v45, v46, v47, v48, v49, v50, v51, v52, v53, v54, v55, v56, v57, rfl, hw, f0, f1, f2, f3, f4, f5, f6⟩ hL hdep K hK
              clear hdep
              have h5 : L 6 = false := by
                cases h5 : L 6 with
                | false => rfl
                | true => exact absurd (hL.symm.trans (f6 h5).1) (by decide)
              have hz0 := hw h5
              have bb := BZ.out.stay hz0
              have c := bb.cell 0 _ rfl
              clear bb hz0
              have F0 := Lib.hid f0
              have F1 := Lib.hid f1
              have F2 := Lib.hid f2
              have F3 := Lib.hid f3
              have F4 := Lib.hid f4
              have F5 := Lib.hid f5
              have F6 := Lib.hid f6
              have HW := Lib.hid hw
              clear hw f0 f1 f2 f3 f4 f5 f6
              go_simp
              refine hK.out _ _ ?_
              exact ⟨_, _, _, _, _, _, _, _, _, _, _, _, _, _, _, _, _, _, _, _, _, _, _, _, _, _, _, _, _, _, _, _, _, _, _, _, _, _, _, _, _, _, _, _, _, _, rfl, (fun h => HW.out ((upd_ne (by decide)).symm.trans h)), fun _ => rfl, fun hk => (F1.out ((upd_ne (by decide)).symm.trans hk)), fun hk => (F2.out ((upd_ne (by decide)).symm.trans hk)), fun hk => (F3.out ((upd_ne (by decide)).symm.trans hk)), fun hk => (F4.out ((upd_ne (by decide)).symm.trans hk)), fun hk => (F5.out ((upd_ne (by decide)).symm.trans hk)), fun hk => (let ⟨h0, h2, h3, z, hz, e⟩ := (F6.out ((upd_ne (by decide)).symm.trans hk)); ⟨upd_mono h0, upd_mono h2, upd_mono h3, z, hz, e⟩)⟩
            · rintro L A Z ⟨v6, v7, v8, v9, v10, v11, v12, v13, v14, v15, v16, v17, v18, v19, v20, v21, v22, v23, v24, v25, v26, v27, v28, v29, v36, v37, v38, v39, v40, v41, v42, v43, v44, v45, v46, v47, v48, v49, v50, v51, v52, v53, v54, v55, v56, v57, rfl, hw, f0, f1, f2, f3, f4, f5, f6⟩ hL hdep K hK
              clear hdep
              have F0 := Lib.hid f0
              have F1 := Lib.hid f1
              have F2 := Lib.hid f2
              have F3 := Lib.hid f3
              have F4 := Lib.hid f4
              have F5 := Lib.hid f5
              have F6 := Lib.hid f6
              have HW := Lib.hid hw
              clear hw f0 f1 f2 f3 f4 f5 f6
              go_simp
              refine hK.out _ _ ?_
              exact ⟨_, _, _, _, _, _, _, _, _, _, _, _, _, _, _, _, _, _, _, _, _, _, _, _, _, _, _, _, _, _, _, _, _, _, _, _, _, _, _, _, _, _, _, _, _, _, rfl, (fun h => HW.out ((upd_ne (by decide)).symm.trans h)), fun hk => (F0.out ((upd_ne (by decide)).symm.trans hk)), fun _ => rfl, fun hk => (F2.out ((upd_ne (by decide)).symm.trans hk)), fun hk => (F3.out ((upd_ne (by decide)).symm.trans hk)), fun hk => (F4.out ((upd_ne (by decide)).symm.trans hk)), fun hk => (F5.out ((upd_ne (by decide)).symm.trans hk)), fun hk => (let ⟨h0, h2, h3, z, hz, e⟩ := (F6.out ((upd_ne (by decide)).symm.trans hk)); ⟨upd_mono h0, upd_mono h2, upd_mono h3, z, hz, e⟩)⟩
            · rintro L A Z ⟨v6, v7, v8, v9, v10, v11, v12, v13, v14, v15, v16, v17, v18, v19, v20, v21, v22, v23, v24, v25, v26, v27, v28, v29, v36, v37, v38, v39, v40, v41, v42, v43, v44, v45, v46, v47, v48, v49, v50, v51, v52, v53, v54, v55, v56, v57, rfl, hw, f0, f1, f2, f3, f4, f5, f6⟩ hL hdep K hK
              simp at hdep
              have d1 : L 1 = true := by first | exact hdep | exact hdep.1 | exact hdep.2 | exact hdep.2.1 | exact hdep.2.2 | exact hdep.2.2.1 | exact hdep.2.2.2
              have e1 := (f1 d1); subst e1
              clear hdep
              have h5 : L 6 = false := by
                cases h5 : L 6 with
                | false => rfl
                | true => exact absurd (hL.symm.trans (f6 h5).2.1) (by decide)
              have hz0 := hw h5
              have bb := BX.out.stay hz0
              have c := bb.cell 7 _ rfl
              clear bb hz0
              have F0 := Lib.hid f0
              have F1 := Lib.hid f1
              have F2 := Lib.hid f2
              have F3 := Lib.hid f3
              have F4 := Lib.hid f4
              have F5 := Lib.hid f5
              have F6 := Lib.hid f6
              have HW := Lib.hid hw
              clear hw f0 f1 f2 f3 f4 f5 f6
              go_simp
              refine hK.out _ _ ?_
              exact ⟨_, _, _, _, _, _, _, _, _, _, _, _, _, _, _, _, _, _, _, _, _, _, _, _, _, _, _, _, _, _, _, _, _, _, _, _, _, _, _, _, _, _, _, _, _, _, rfl, (fun h => HW.out ((upd_ne (by decide)).symm.trans h)), fun hk => (F0.out ((upd_ne (by decide)).symm.trans hk)), fun _ => rfl, fun _ => rfl, fun hk => (F3.out ((upd_ne (by decide)).symm.trans hk)), fun hk => (F4.out ((upd_ne (by decide)).symm.trans hk)), fun hk => (F5.out ((upd_ne (by decide)).symm.trans hk)), fun hk => (let ⟨h0, h2, h3, z, hz, e⟩ := (F6.out ((upd_ne (by decide)).symm.trans hk)); ⟨upd_mono h0, upd_mono h2, upd_mono h3, z, hz, e⟩)⟩
            · rintro L A Z ⟨v6, v7, v8, v9, v10, v11, v12, v13, v14, v15, v16, v17, v18, v19, v20, v21, v22, v23, v24, v25, v26, v27, v28, v29, v36, v37, v38, v39, v40, v41, v42, v43, v44, v45, v46, v47, v48, v49, v50, v51, v52, v53, v54, v55, v56, v57, rfl, hw, f0, f1, f2, f3, f4, f5, f6⟩ hL hdep K hK
              simp at hdep
              have d2 : L 2 = true := by first | exact hdep | exact hdep.1 | exact hdep.2 | exact hdep.2.1 | exact hdep.2.2 | exact hdep.2.2.1 | exact hdep.2.2.2
              have e2 := (f2 d2); subst e2
              clear hdep
              have h5 : L 6 = false := by
                cases h5 : L 6 with
                | false => rfl
                | true => exact absurd (hL.symm.trans (f6 h5).2.2.1) (by decide)
              have hz0 := hw h5
              have HZ0 := Lib.hid hz0
              clear hz0
              have F0 := Lib.hid f0
              have F1 := Lib.hid f1
              have F2 := Lib.hid f2
              have F3 := Lib.hid f3
              have F4 := Lib.hid f4
              have F5 := Lib.hid f5
              have F6 := Lib.hid f6
              have HW := Lib.hid hw
              clear hw f0 f1 f2 f3 f4 f5 f6
              go_simp
              gi_wp2_with fail
              refine ⟨trivial, ?_⟩
              refine (callsIn_wide.2 (HT.out _ HZ0.out)).mono ?_
              rintro e y ⟨rfl, hb⟩
              go_simp
              refine hK.out _ _ ?_
              exact ⟨_, _, _, _, _, _, _, _, _, _, _, _, _, _, _, _, _, _, _, _, _, _, _, _, _, _, _, _, _, _, _, _, _, _, _, _, _, _, _, _, _, _, _, _, _, _, rfl, (fun h => ((HW.out ((upd_ne (by decide)).symm.trans h)).trans (hb.mono (HW.out ((upd_ne (by decide)).symm.trans h)).size))), fun hk => (F0.out ((upd_ne (by decide)).symm.trans hk)), fun hk => (F1.out ((upd_ne (by decide)).symm.trans hk)), fun _ => rfl, fun _ => rfl, fun hk => (F4.out ((upd_ne (by decide)).symm.trans hk)), fun hk => (F5.out ((upd_ne (by decide)).symm.trans hk)), fun hk => (absurd (hL.symm.trans ((F6.out ((upd_ne (by decide)).symm.trans hk))).2.2.1) (by decide))⟩
            · rintro L A Z ⟨v6, v7, v8, v9, v10, v11, v12, v13, v14, v15, v16, v17, v18, v19, v20, v21, v22, v23, v24, v25, v26, v27, v28, v29, v36, v37, v38, v39, v40, v41, v42, v43, v44, v45, v46, v47, v48, v49, v50, v51, v52, v53, v54, v55, v56, v57, rfl, hw, f0, f1, f2, f3, f4, f5, f6⟩ hL hdep K hK
              simp at hdep
              have d3 : L 3 = true := by first | exact hdep | exact hdep.1 | exact hdep.2 | exact hdep.2.1 | exact hdep.2.2 | exact hdep.2.2.1 | exact hdep.2.2.2
              have e3 := (f3 d3); subst e3
              clear hdep
              have F0 := Lib.hid f0
              have F1 := Lib.hid f1
              have F2 := Lib.hid f2
              have F3 := Lib.hid f3
              have F4 := Lib.hid f4
              have F5 := Lib.hid f5
              have F6 := Lib.hid f6
              have HW := Lib.hid hw
              clear hw f0 f1 f2 f3 f4 f5 f6
              go_simp
              refine hK.out _ _ ?_
              exact ⟨_, _, _, _, _, _, _, _, _, _, _, _, _, _, _, _, _, _, _, _, _, _, _, _, _, _, _, _, _, _, _, _, _, _, _, _, _, _, _, _, _, _, _, _, _, _, rfl, (fun h => HW.out ((upd_ne (by decide)).symm.trans h)), fun hk => (F0.out ((upd_ne (by decide)).symm.trans hk)), fun hk => (F1.out ((upd_ne (by decide)).symm.trans hk)), fun hk => (F2.out ((upd_ne (by decide)).symm.trans hk)), fun _ => rfl, fun _ => rfl, fun hk => (F5.out ((upd_ne (by decide)).symm.trans hk)), fun hk => (let ⟨h0, h2, h3, z, hz, e⟩ := (F6.out ((upd_ne (by decide)).symm.trans hk)); ⟨upd_mono h0, upd_mono h2, upd_mono h3, z, hz, e⟩)⟩
            · rintro L A Z ⟨v6, v7, v8, v9, v10, v11, v12, v13, v14, v15, v16, v17, v18, v19, v20, v21, v22, v23, v24, v25, v26, v27, v28, v29, v36, v37, v38, v39, v40, v41, v42, v43, v44, v45, v46, v47, v48, v49, v50, v51, v52, v53, v54, v55, v56, v57, rfl, hw, f0, f1, f2, f3, f4, f5, f6⟩ hL hdep K hK
              simp at hdep
              have d0 : L 0 = true := by first | exact hdep | exact hdep.1 | exact hdep.2 | exact hdep.2.1 | exact hdep.2.2 | exact hdep.2.2.1 | exact hdep.2.2.2
              have d4 : L 4 = true := by first | exact hdep | exact hdep.1 | exact hdep.2 | exact hdep.2.1 | exact hdep.2.2 | exact hdep.2.2.1 | exact hdep.2.2.2
              have e0 := (f0 d0); subst e0
              have e4 := (f4 d4); subst e4
              clear hdep
              have F0 := Lib.hid f0
              have F1 := Lib.hid f1
              have F2 := Lib.hid f2
              have F3 := Lib.hid f3
              have F4 := Lib.hid f4
              have F5 := Lib.hid f5
              have F6 := Lib.hid f6
              have HW := Lib.hid hw
              clear hw f0 f1 f2 f3 f4 f5 f6
              go_simp
              refine hK.out _ _ ?_
              exact ⟨_, _, _, _, _, _, _, _, _, _, _, _, _, _, _, _, _, _, _, _, _, _, _, _, _, _, _, _, _, _, _, _, _, _, _, _, _, _, _, _, _, _, _, _, _, _, rfl, (fun h => HW.out ((upd_ne (by decide)).symm.trans h)), fun _ => rfl, fun hk => (F1.out ((upd_ne (by decide)).symm.trans hk)), fun hk => (F2.out ((upd_ne (by decide)).symm.trans hk)), fun hk => (F3.out ((upd_ne (by decide)).symm.trans hk)), fun _ => rfl, fun _ => rfl, fun hk => (let ⟨h0, h2, h3, z, hz, e⟩ := (F6.out ((upd_ne (by decide)).symm.trans hk)); ⟨upd_mono h0, upd_mono h2, upd_mono h3, z, hz, e⟩)⟩
            · rintro L A Z ⟨v6, v7, v8, v9, v10, v11, v12, v13, v14, v15, v16, v17, v18, v19, v20, v21, v22, v23, v24, v25, v26, v27, v28, v29, v36, v37, v38, v39, v40, v41, v42, v43, v44, v45, v46, v47, v48, v49, v50, v51, v52, v53, v54, v55, v56, v57, rfl, hw, f0, f1, f2, f3, f4, f5, f6⟩ hL hdep K hK
              simp at hdep
              have d5 : L 5 = true := by first | exact hdep | exact hdep.1 | exact hdep.2 | exact hdep.2.1 | exact hdep.2.2 | exact hdep.2.2.1 | exact hdep.2.2.2 | exact hdep.2.2.2.1 | exact hdep.2.2.2.2 | exact hdep.2.2.2.2.1 | exact hdep.2.2.2.2.2 | exact hdep.2.2.2.2.2.1 | exact hdep.2.2.2.2.2.2 | exact hdep.2.2.2.2.2.2.1 | exact hdep.2.2.2.2.2.2.2
              have d0 : L 0 = true := by first | exact hdep | exact hdep.1 | exact hdep.2 | exact hdep.2.1 | exact hdep.2.2 | exact hdep.2.2.1 | exact hdep.2.2.2 | exact hdep.2.2.2.1 | exact hdep.2.2.2.2 | exact hdep.2.2.2.2.1 | exact hdep.2.2.2.2.2 | exact hdep.2.2.2.2.2.1 | exact hdep.2.2.2.2.2.2 | exact hdep.2.2.2.2.2.2.1 | exact hdep.2.2.2.2.2.2.2
              have d2 : L 2 = true := by first | exact hdep | exact hdep.1 | exact hdep.2 | exact hdep.2.1 | exact hdep.2.2 | exact hdep.2.2.1 | exact hdep.2.2.2 | exact hdep.2.2.2.1 | exact hdep.2.2.2.2 | exact hdep.2.2.2.2.1 | exact hdep.2.2.2.2.2 | exact hdep.2.2.2.2.2.1 | exact hdep.2.2.2.2.2.2 | exact hdep.2.2.2.2.2.2.1 | exact hdep.2.2.2.2.2.2.2
              have d3 : L 3 = true := by first | exact hdep | exact hdep.1 | exact hdep.2 | exact hdep.2.1 | exact hdep.2.2 | exact hdep.2.2.1 | exact hdep.2.2.2 | exact hdep.2.2.2.1 | exact hdep.2.2.2.2 | exact hdep.2.2.2.2.1 | exact hdep.2.2.2.2.2 | exact hdep.2.2.2.2.2.1 | exact hdep.2.2.2.2.2.2 | exact hdep.2.2.2.2.2.2.1 | exact hdep.2.2.2.2.2.2.2
              have e5 := (f5 d5); subst e5
              have e0 := (f0 d0); subst e0
              have e2 := (f2 d2); subst e2
              have e3 := (f3 d3); subst e3
              clear hdep
              have h5 : L 6 = false := hL
              have hz0 := hw h5
              have bb := BZ.out.stay hz0
              have t0 := bb.thaw 0
              have c := bb.cell 0 _ rfl
              have HZ0 := Lib.hid hz0
              have HD0 := Lib.hid d0
              have HD2 := Lib.hid d2
              have HD3 := Lib.hid d3
              clear bb hz0
              have F0 := Lib.hid f0
              have F1 := Lib.hid f1
              have F2 := Lib.hid f2
              have F3 := Lib.hid f3
              have F4 := Lib.hid f4
              have F5 := Lib.hid f5
              have F6 := Lib.hid f6
              have HW := Lib.hid hw
              clear hw f0 f1 f2 f3 f4 f5 f6
              go_simp
              refine hK.out _ _ ?_
              exact ⟨_, _, _, _, _, _, _, _, _, _, _, _, _, _, _, _, _, _, _, _, _, _, _, _, _, _, _, _, _, _, _, _, _, _, _, _, _, _, _, _, _, _, _, _, _, _, rfl, (fun h => absurd ((upd_self L 6).symm.trans h) (by decide)), fun _ => rfl, fun hk => (F1.out ((upd_ne (by decide)).symm.trans hk)), fun _ => rfl, fun _ => rfl, fun hk => (F4.out ((upd_ne (by decide)).symm.trans hk)), fun _ => rfl, fun _ => ⟨upd_mono HD0.out, upd_mono HD2.out, upd_mono HD3.out, _, HZ0.out, rfl⟩⟩
            · rintro L A Z ⟨v6, v7, v8, v9, v10, v11, v12, v13, v14, v15, v16, v17, v18, v19, v20, v21, v22, v23, v24, v25, v26, v27, v28, v29, v36, v37, v38, v39, v40, v41, v42, v43, v44, v45, v46, v47, v48, v49, v50, v51, v52, v53, v54, v55, v56, v57, rfl, hw, f0, f1, f2, f3, f4, f5, f6⟩ hall
              obtain ⟨_, _, _, z, hz0, rfl⟩ := f6 (hall 6 (by decide))
              clear f0 f1 f2 f3 f4 f5 f6 hall hw
              have HB := Lib.hid hz0
              clear hz0
              obtain ⟨t, ht1, ht2⟩ := HF.out
              have hZ3 := (HI.out.1.1.stay HB.out).put 0 (.string (pr ++ (⟨#[32, 62]⟩ ++ tr)))
              have e9 := hZ3.cell 0 _ rfl
              have HK3 := Lib.hid (show (z.setCell ⟨b, 0, none⟩ (.string (pr ++ (⟨#[32, 62]⟩ ++ tr)))).heap[D]? = some (.deferred (some [])) from (Below.heap_setCell _ ⟨b, 0, none⟩ _ D (Ne.symm hlW)).trans ((HB.out.block D (Array.getElem?_eq_some_iff.1 HI.out.2.2).1).trans HI.out.2.2))
              have HBB := Lib.hid ((goB2 HI.out.2.1 (by have := HI.out.2.1.size; omega) HB.out).setCell (p := ⟨b, 0, none⟩) (Nat.le_of_lt hl) (.string (pr ++ (⟨#[32, 62]⟩ ++ tr))))
              rw [ht1] at e9 HK3 HBB
              rw [ht1]
              have HT2 := Lib.hid ht2
              clear hZ3 ht1 ht2
              gi_wp2
              refine ⟨by simp, .inl ⟨_, _, rfl, run_takeDeferred HK3.out, ?_⟩⟩
              refine ⟨.string (B t), ?_, ⟨t, rfl, HT2.out, HWW.out.trans <| HBB.out.trans (belowK_b (w := w) (Nat.le_refl _) _ D _ _ (by omega) HK3.out rfl rfl)⟩⟩
              simp [results, Tryd.results49, go_sem]
          · have h5' : (x.kind == 5) = false := by simpa using h5
            have HF := Lib.hid (show ∃ t, pr = B t ∧ t ++ [10] = thingL x by
              refine ⟨h2 ++ queueL x.queue, hpre.symm, ?_⟩
              rw [thingL_head, if_neg h5, ← HH2.out, HHD.out]
              simp only [List.append_assoc, List.nil_append])
            have HBB := Lib.hid hB1
            have HK3 := Lib.hid hK
            clear hpre zp h5 hlt HJ hk hB1 hK bZ1 bX1
            obtain ⟨t, ht1, ht2⟩ := HF.out
            rw [ht1] at e0
            have HT2 := Lib.hid ht2
            clear ht1 ht2 HF
            gi_wp2
            refine ⟨by simp, .inl ⟨_, _, rfl, run_takeDeferred HK3.out, ?_⟩⟩
            refine ⟨.string (B t), ?_, ⟨t, rfl, HT2.out, HWW.out.trans <| HBB.out.trans (belowK_b (w := w) (Nat.le_refl _) _ D _ _ (by omega) HK3.out rfl rfl)⟩⟩
            simp [results, Tryd.results49, go_sem]
    case stop =>
      rintro D c pre W hD hpre h
      exact h.elim
end Go.Proofs.YtpahahonopiblaaDoor
