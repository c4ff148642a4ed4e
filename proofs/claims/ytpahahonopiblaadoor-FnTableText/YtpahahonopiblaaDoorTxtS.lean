/-
  The text of a thing and of a table: the model's.
-/
import Derived.Test.YtpahahonopiblaaDoorTxtA
import Derived.Test.YtpahahonopiblaaDoorRigU
import Derived.Deep.DeepCutAuto
import Derived.Deep.RegionHeld3
namespace Go.Proofs.YtpahahonopiblaaDoor
open Go.RowKit
set_option linter.unusedVariables false
set_option maxRecDepth 100000

/-- A short number in decimals, as the model writes it. -/
theorem l6Dec_all (n : Int) (w : World) (h : -9 ≤ n ∧ n ≤ 99) :
    Calls Tryd.prog 85 #[.int .i64 n] w fun e w' => e = .returned (.string (B (decL n))) ∧ Below w.heap.size w w' := by
  by_cases h0 : n < 0
  · have M0 := Lib.hid (show 0 ≤ -n by omega)
    have M9 := Lib.hid (show -n ≤ 9 by omega)
    have HT := Lib.hid (show (⟨#[45]⟩ : ByteArray) ++ dig (-n) = B (decL n) by
      have e : dig (-n) = B [(48 + (-n).toNat).toUInt8] := rfl
      rw [e, show (⟨#[45]⟩ : ByteArray) = B [45] from rfl, B_app]
      unfold decL
      rw [if_pos h0]; rfl)
    have f0 : ¬ n < -9223372036854775807 := by omega
    have d1 : wrap64 (-n) = -n := by unfold wrap64; omega
    have d2 : IntKind.i64.wrap (-n) = -n := IntWalk.i64_in _ (by omega)
    clear h
    go_enter Tryd.func85, Tryd.ntmps85
    go_wp2_with fail
    refine (l6Dec_any (-n) _ M0.out M9.out).mono ?_
    rintro e y ⟨rfl, hb⟩
    go_wp2
    go_ret
    exact ⟨by rw [← HT.out]; rfl, hb⟩
  · by_cases h9 : n ≤ 9
    · exact (l6Dec_any n w (by omega) h9).mono fun e w' h2 => ⟨by rw [h2.1, show dig n = B (decL n) by unfold decL dig B; rw [if_neg h0, if_pos (by omega)]], h2.2⟩
    · exact l6Dec_two n _ _ w (by omega) rfl rfl

/-- The names of kinds. -/
abbrev kindNames : Array Value := #[.string ⟨#[]⟩, .string ⟨#[112, 97, 103, 101]⟩, .string ⟨#[110, 111, 100, 101]⟩, .string ⟨#[114, 117, 110]⟩, .string ⟨#[112, 105, 112, 101]⟩, .string ⟨#[103, 97, 116, 101]⟩]
theorem kindName {k : Nat} (h1 : 1 ≤ k) (h5 : k ≤ 5) : kindNames[k]? = some (.string (B (nameL (k : Int)))) := by
  rcases (by omega : k = 1 ∨ k = 2 ∨ k = 3 ∨ k = 4 ∨ k = 5) with rfl | rfl | rfl | rfl | rfl <;> rfl
theorem B_size (l : List UInt8) : (B l).size = l.length := by simp [B, ByteArray.size]
theorem name_len (k : Int) : (B (nameL k)).size ≤ 4 := by
  rw [B_size]; unfold nameL; repeat' split
  all_goals decide
theorem dec_len (n : Int) : (B (decL n)).size ≤ 2 := by
  rw [B_size]; unfold decL; repeat' split
  all_goals simp
theorem rgt_len (r : R5) (h : r.ok = true) : (B (rgtL r)).size ≤ 6 := by
  rw [← txtR_B]
  unfold txtR
  repeat' split
  all_goals (show (_ : Nat) ≤ 6; first | exact Nat.le_refl 6 | exact (by decide : 1 ≤ 6) | exact (by decide : 0 ≤ 6))
theorem lab_len (s v : Int) : (B (decL s ++ 47 :: decL v)).size ≤ 5 := by
  have h1 := dec_len s
  have h2 := dec_len v
  rw [B_size] at *
  simp only [List.length_append, List.length_cons]
  omega
/-- What stands ahead of a thing's rights. -/
def headL (x : T8) : List UInt8 := nameL x.kind ++ 32 :: (decL x.sec ++ 47 :: decL x.vou) ++ 32 :: (decL x.vers ++ 32 :: decL x.num)

def slotsL (l : List R5) : List UInt8 := l.flatMap (fun r => 32 :: rgtL r)
def queueL (l : List Int) : List UInt8 := l.flatMap (fun q => 32 :: 60 :: decL q)
theorem slotsL_more (l : List R5) (k : Nat) (h : k < l.length) : slotsL (l.take (k + 1)) = slotsL (l.take k) ++ (32 :: rgtL l[k]) := by
  simp only [slotsL, List.take_succ_eq_append_getElem h, List.flatMap_append, List.flatMap_cons, List.flatMap_nil, List.append_nil]
theorem queueL_more (l : List Int) (k : Nat) (h : k < l.length) : queueL (l.take (k + 1)) = queueL (l.take k) ++ (32 :: 60 :: decL l[k]) := by
  simp only [queueL, List.take_succ_eq_append_getElem h, List.flatMap_append, List.flatMap_cons, List.flatMap_nil, List.append_nil]
theorem rgtL_len (r : R5) : (rgtL r).length ≤ 6 := by
  show (txtR r.t r.v r.r r.w r.k).data.toList.length ≤ 6
  unfold txtR
  repeat' split
  all_goals simp
theorem slotsL_len (l : List R5) : (slotsL l).length ≤ 7 * l.length := by
  induction l with
  | nil => simp [slotsL]
  | cons a l ih =>
    have := rgtL_len a
    simp only [slotsL, List.flatMap_cons, List.length_append, List.length_cons] at ih ⊢
    omega
theorem decL_len (n : Int) : (decL n).length ≤ 2 := by
  have := dec_len n
  rwa [B_size] at this
theorem queueL_len (l : List Int) : (queueL l).length ≤ 4 * l.length := by
  induction l with
  | nil => simp [queueL]
  | cons a l ih =>
    have := decL_len a
    simp only [queueL, List.flatMap_cons, List.length_append, List.length_cons] at ih ⊢
    omega
theorem head_len (x : T8) : (headL x).length ≤ 16 := by
  have h1 : (nameL x.kind).length ≤ 4 := by have := name_len x.kind; rwa [B_size] at this
  have h2 := decL_len x.sec
  have h3 := decL_len x.vou
  have h4 := decL_len x.vers
  have h5 := decL_len x.num
  simp only [headL, List.length_append, List.length_cons]
  omega
theorem thingL_head (x : T8) : thingL x = headL x ++ slotsL x.slots ++ queueL x.queue ++ ((if x.kind = 5 then 32 :: 62 :: decL x.to else []) ++ [10]) := by
  simp only [thingL, tailL, headL, slotsL, queueL, List.append_assoc, List.cons_append]
def TH1W (w : World) (x : T8) (s q : Sl) (kd : Nat) (S1 S2 S3 S4 : ByteArray) (y : World) : Prop := Kn w [(w.heap.size, 37, x.cs s q)] y
def TH1 (w : World) (x : T8) (s q : Sl) (kd : Nat) (S1 S2 S3 S4 : ByteArray) (L : Nat → Bool) (A : Act) (y : World) : Prop := ∃ v3 v6 v7 v8 v9 v10 v11 v12 v13 v14 v15 v16 v17 v18 v19 v20 v21 v22 v23 v24 v25 : Value, A = { tmps := #[x.val s q, .pointer (some ⟨w.heap.size, 0, none⟩), .string ⟨#[]⟩, v3, undef, undef, v6, v7, v8, v9, v10, v11, v12, v13, v14, v15, v16, v17, v18, v19, v20, v21, v22, v23, v24, v25, undef, undef, undef, undef, undef, undef, undef, undef, undef, undef, undef, undef, undef, undef, undef, undef, undef, undef, undef, undef, undef, undef, undef, undef, undef, undef, undef, undef, undef, undef, undef, undef, undef, undef, undef, undef, undef, undef, undef, undef, undef, undef, undef], defers := [] } ∧ TH1W w x s q kd S1 S2 S3 S4 y ∧ (L 0 = true → ∃ b, v6 = .slice (some ⟨b, 0, none⟩) 6 6 ∧ Box y b 9 kindNames) ∧ (L 1 = true → v7 = .pointer (some ⟨w.heap.size, 0, none⟩)) ∧ (L 2 = true → v8 = .int .i64 (kd : Int)) ∧ (L 3 = true → ∃ b, v9 = .pointer (some ⟨b, kd, none⟩) ∧ Box y b 9 kindNames) ∧ (L 4 = true → v10 = .string (S1)) ∧ (L 5 = true → v11 = .string (S1 ++ ⟨#[32]⟩)) ∧ (L 6 = true → v12 = .pointer (some ⟨w.heap.size, 1, none⟩)) ∧ (L 7 = true → v13 = lab x.sec x.vou) ∧ (L 8 = true → v14 = .string S2) ∧ (L 9 = true → v15 = .string (S1 ++ ⟨#[32]⟩ ++ S2)) ∧ (L 10 = true → v16 = .string (S1 ++ ⟨#[32]⟩ ++ S2 ++ ⟨#[32]⟩)) ∧ (L 11 = true → v17 = .pointer (some ⟨w.heap.size, 3, none⟩)) ∧ (L 12 = true → v18 = .int .i64 x.vers) ∧ (L 13 = true → v19 = .string S3) ∧ (L 14 = true → v20 = .string (S1 ++ ⟨#[32]⟩ ++ S2 ++ ⟨#[32]⟩ ++ S3)) ∧ (L 15 = true → v21 = .string (S1 ++ ⟨#[32]⟩ ++ S2 ++ ⟨#[32]⟩ ++ S3 ++ ⟨#[32]⟩)) ∧ (L 16 = true → v22 = .pointer (some ⟨w.heap.size, 4, none⟩)) ∧ (L 17 = true → v23 = .int .i64 x.num) ∧ (L 18 = true → v24 = .string S4) ∧ (L 19 = true → v25 = .string (S1 ++ ⟨#[32]⟩ ++ S2 ++ ⟨#[32]⟩ ++ S3 ++ ⟨#[32]⟩ ++ S4)) ∧ (L 20 = true → v3 = .string (S1 ++ ⟨#[32]⟩ ++ S2 ++ ⟨#[32]⟩ ++ S3 ++ ⟨#[32]⟩ ++ S4))

set_option maxHeartbeats 8000000 in
theorem l3Thing_any (x : T8) (s q : Sl) (w : World) (hx : okT x = true) (hR : HasR w s x.slots) (hQ : HasQ w q x.queue) :
    Calls Tryd.prog 86 #[x.val s q] w fun e w' => e = .returned (.string (B (thingL x))) ∧ Below w.heap.size w w' := by
  obtain ⟨k1, k2, k3, k4, k5⟩ := okT_ranges hx
  have OL := Lib.hid (x_okT_lab hx)
  have OV := Lib.hid (show -9 ≤ x.vers ∧ x.vers ≤ 99 by omega)
  have ON := Lib.hid (show -9 ≤ x.num ∧ x.num ≤ 99 by omega)
  obtain ⟨kd, hkd, hk1, hk5⟩ : ∃ kd : Nat, x.kind = kd ∧ 1 ≤ kd ∧ kd ≤ 5 := ⟨x.kind.toNat, by rw [inR_iff] at k1; omega⟩
  have HKN := Lib.hid (kindName hk1 hk5)
  obtain ⟨Y, hY⟩ : ∃ Y, w.alloc (.cells (x.cs s q) 37) = Y := ⟨_, rfl⟩
  have K0 := (Kn.refl (w := w)).new 37 (x.cs s q)
  rw [hY] at K0
  have hkd' : (kd : Int) < 6 := by omega
  have wk : IntKind.i64.wrap (kd : Int) = (kd : Int) := IntWalk.i64_in _ (by omega)
  obtain ⟨S1, hS1⟩ : ∃ S1, B (nameL (kd : Int)) = S1 := ⟨_, rfl⟩
  obtain ⟨S2, hS2⟩ : ∃ S2, txt x.sec x.vou = S2 := ⟨_, rfl⟩
  obtain ⟨S3, hS3⟩ : ∃ S3, B (decL x.vers) = S3 := ⟨_, rfl⟩
  obtain ⟨S4, hS4⟩ : ∃ S4, B (decL x.num) = S4 := ⟨_, rfl⟩
  have z1 : S1.size ≤ 4 := hS1 ▸ name_len _
  have z2 : S2.size ≤ 5 := hS2 ▸ txt_B OL.out ▸ lab_len _ _
  have z3 : S3.size ≤ 2 := hS3 ▸ dec_len _
  have z4 : S4.size ≤ 2 := hS4 ▸ dec_len _
  have y1 : ¬ 9223372036854775807 < S1.size + 1 := by omega
  have y2 : ¬ 9223372036854775807 < S1.size + 1 + S2.size := by omega
  have y3 : ¬ 9223372036854775807 < S1.size + 1 + S2.size + 1 := by omega
  have y4 : ¬ 9223372036854775807 < S1.size + 1 + S2.size + 1 + S3.size := by omega
  have y5 : ¬ 9223372036854775807 < S1.size + 1 + S2.size + 1 + S3.size + 1 := by omega
  have y6 : ¬ 9223372036854775807 < S1.size + 1 + S2.size + 1 + S3.size + 1 + S4.size := by omega
  have HE := Lib.hid (show S1 ++ ⟨#[32]⟩ ++ S2 ++ ⟨#[32]⟩ ++ S3 ++ ⟨#[32]⟩ ++ S4 = B (headL x) by
    rw [← hS1, ← hS2, ← hS3, ← hS4, txt_B OL.out, show (⟨#[32]⟩ : ByteArray) = B [32] from rfl]
    simp only [B_app, headL, hkd, List.append_assoc, List.cons_append, List.nil_append])
  rw [hS1] at HKN
  have G1 := Lib.hid (show ∀ y, Calls Tryd.prog 112 #[lab x.sec x.vou] y fun e w' => e = .returned (.string S2) ∧ Below y.heap.size y w' from fun y => hS2 ▸ specText_any x.sec x.vou y)
  have G2 := Lib.hid (show ∀ y, Calls Tryd.prog 85 #[.int .i64 x.vers] y fun e w' => e = .returned (.string S3) ∧ Below y.heap.size y w' from fun y => hS3 ▸ l6Dec_all x.vers y OV.out)
  have G3 := Lib.hid (show ∀ y, Calls Tryd.prog 85 #[.int .i64 x.num] y fun e w' => e = .returned (.string S4) ∧ Below y.heap.size y w' from fun y => hS4 ▸ l6Dec_all x.num y ON.out)
  have HR := Lib.hid hR
  have HQ := Lib.hid hQ
  have HX := Lib.hid hx
  have HK0 := Lib.hid K0
  clear K0 hS1 hS2 hS3 hS4 z1 z2 z3 z4 k1 k2 k3 k4 k5 OV ON hk1 hk5 hR hQ hx
  go_enter Tryd.func86, Tryd.ntmps86
  go_upto_region 1 with fail
  refine wp_region_steps (by kernel_rfl) (by kernel_rfl) (by kernel_rfl) (TH1 w x s q kd S1 S2 S3 S4) ?_ ⟨?_, ?_, ?_, ?_, ?_, ?_, ?_, ?_, ?_, ?_, ?_, ?_, ?_, ?_, ?_, ?_, ?_, ?_, ?_, ?_, ?_, trivial⟩ ?_
  · exact ⟨_, _, _, _, _, _, _, _, _, _, _, _, _, _, _, _, _, _, _, _, _, rfl, Kn.drew HK0.out, fun h => absurd h (by decide), fun h => absurd h (by decide), fun h => absurd h (by decide), fun h => absurd h (by decide), fun h => absurd h (by decide), fun h => absurd h (by decide), fun h => absurd h (by decide), fun h => absurd h (by decide), fun h => absurd h (by decide), fun h => absurd h (by decide), fun h => absurd h (by decide), fun h => absurd h (by decide), fun h => absurd h (by decide), fun h => absurd h (by decide), fun h => absurd h (by decide), fun h => absurd h (by decide), fun h => absurd h (by decide), fun h => absurd h (by decide), fun h => absurd h (by decide), fun h => absurd h (by decide), fun h => absurd h (by decide)⟩
  · rintro L A X ⟨v3, v6, v7, v8, v9, v10, v11, v12, v13, v14, v15, v16, v17, v18, v19, v20, v21, v22, v23, v24, v25, rfl, hw, f0, f1, f2, f3, f4, f5, f6, f7, f8, f9, f10, f11, f12, f13, f14, f15, f16, f17, f18, f19, f20⟩ hL hdep K hK
    clear hdep
    have F0 := Lib.hid f0
    have F1 := Lib.hid f1
    have F2 := Lib.hid f2
    have F3 := Lib.hid f3
    have F4 := Lib.hid f4
    have F5 := Lib.hid f5
    have F6 := Lib.hid f6
    have F7 := Lib.hid f7
    have F8 := Lib.hid f8
    have F9 := Lib.hid f9
    have F10 := Lib.hid f10
    have F11 := Lib.hid f11
    have F12 := Lib.hid f12
    have F13 := Lib.hid f13
    have F14 := Lib.hid f14
    have F15 := Lib.hid f15
    have F16 := Lib.hid f16
    have F17 := Lib.hid f17
    have F18 := Lib.hid f18
    have F19 := Lib.hid f19
    have F20 := Lib.hid f20
    have HW := Lib.hid hw
    clear hw f0 f1 f2 f3 f4 f5 f6 f7 f8 f9 f10 f11 f12 f13 f14 f15 f16 f17 f18 f19 f20
    go_simp
    refine hK.out _ _ ?_
    exact ⟨_, _, _, _, _, _, _, _, _, _, _, _, _, _, _, _, _, _, _, _, _, rfl, Kn.past HW.out _, fun _ => ⟨_, rfl, Box.fresh _ _ _⟩, fun hk => (F1.out ((upd_ne (by decide)).symm.trans hk)), fun hk => (F2.out ((upd_ne (by decide)).symm.trans hk)), fun hk => (let ⟨b, e, hB⟩ := (F3.out ((upd_ne (by decide)).symm.trans hk)); ⟨b, e, hB.past _⟩), fun hk => (F4.out ((upd_ne (by decide)).symm.trans hk)), fun hk => (F5.out ((upd_ne (by decide)).symm.trans hk)), fun hk => (F6.out ((upd_ne (by decide)).symm.trans hk)), fun hk => (F7.out ((upd_ne (by decide)).symm.trans hk)), fun hk => (F8.out ((upd_ne (by decide)).symm.trans hk)), fun hk => (F9.out ((upd_ne (by decide)).symm.trans hk)), fun hk => (F10.out ((upd_ne (by decide)).symm.trans hk)), fun hk => (F11.out ((upd_ne (by decide)).symm.trans hk)), fun hk => (F12.out ((upd_ne (by decide)).symm.trans hk)), fun hk => (F13.out ((upd_ne (by decide)).symm.trans hk)), fun hk => (F14.out ((upd_ne (by decide)).symm.trans hk)), fun hk => (F15.out ((upd_ne (by decide)).symm.trans hk)), fun hk => (F16.out ((upd_ne (by decide)).symm.trans hk)), fun hk => (F17.out ((upd_ne (by decide)).symm.trans hk)), fun hk => (F18.out ((upd_ne (by decide)).symm.trans hk)), fun hk => (F19.out ((upd_ne (by decide)).symm.trans hk)), fun hk => (F20.out ((upd_ne (by decide)).symm.trans hk))⟩
  · rintro L A X ⟨v3, v6, v7, v8, v9, v10, v11, v12, v13, v14, v15, v16, v17, v18, v19, v20, v21, v22, v23, v24, v25, rfl, hw, f0, f1, f2, f3, f4, f5, f6, f7, f8, f9, f10, f11, f12, f13, f14, f15, f16, f17, f18, f19, f20⟩ hL hdep K hK
    clear hdep
    have F0 := Lib.hid f0
    have F1 := Lib.hid f1
    have F2 := Lib.hid f2
    have F3 := Lib.hid f3
    have F4 := Lib.hid f4
    have F5 := Lib.hid f5
    have F6 := Lib.hid f6
    have F7 := Lib.hid f7
    have F8 := Lib.hid f8
    have F9 := Lib.hid f9
    have F10 := Lib.hid f10
    have F11 := Lib.hid f11
    have F12 := Lib.hid f12
    have F13 := Lib.hid f13
    have F14 := Lib.hid f14
    have F15 := Lib.hid f15
    have F16 := Lib.hid f16
    have F17 := Lib.hid f17
    have F18 := Lib.hid f18
    have F19 := Lib.hid f19
    have F20 := Lib.hid f20
    have HW := Lib.hid hw
    clear hw f0 f1 f2 f3 f4 f5 f6 f7 f8 f9 f10 f11 f12 f13 f14 f15 f16 f17 f18 f19 f20
    go_simp
    refine hK.out _ _ ?_
    exact ⟨_, _, _, _, _, _, _, _, _, _, _, _, _, _, _, _, _, _, _, _, _, rfl, HW.out, fun hk => (F0.out ((upd_ne (by decide)).symm.trans hk)), fun _ => rfl, fun hk => (F2.out ((upd_ne (by decide)).symm.trans hk)), fun hk => (F3.out ((upd_ne (by decide)).symm.trans hk)), fun hk => (F4.out ((upd_ne (by decide)).symm.trans hk)), fun hk => (F5.out ((upd_ne (by decide)).symm.trans hk)), fun hk => (F6.out ((upd_ne (by decide)).symm.trans hk)), fun hk => (F7.out ((upd_ne (by decide)).symm.trans hk)), fun hk => (F8.out ((upd_ne (by decide)).symm.trans hk)), fun hk => (F9.out ((upd_ne (by decide)).symm.trans hk)), fun hk => (F10.out ((upd_ne (by decide)).symm.trans hk)), fun hk => (F11.out ((upd_ne (by decide)).symm.trans hk)), fun hk => (F12.out ((upd_ne (by decide)).symm.trans hk)), fun hk => (F13.out ((upd_ne (by decide)).symm.trans hk)), fun hk => (F14.out ((upd_ne (by decide)).symm.trans hk)), fun hk => (F15.out ((upd_ne (by decide)).symm.trans hk)), fun hk => (F16.out ((upd_ne (by decide)).symm.trans hk)), fun hk => (F17.out ((upd_ne (by decide)).symm.trans hk)), fun hk => (F18.out ((upd_ne (by decide)).symm.trans hk)), fun hk => (F19.out ((upd_ne (by decide)).symm.trans hk)), fun hk => (F20.out ((upd_ne (by decide)).symm.trans hk))⟩
  · rintro L A X ⟨v3, v6, v7, v8, v9, v10, v11, v12, v13, v14, v15, v16, v17, v18, v19, v20, v21, v22, v23, v24, v25, rfl, hw, f0, f1, f2, f3, f4, f5, f6, f7, f8, f9, f10, f11, f12, f13, f14, f15, f16, f17, f18, f19, f20⟩ hL hdep K hK
    simp at hdep
    have d1 : L 1 = true := by first | exact hdep | exact hdep.1 | exact hdep.2 | exact hdep.2.1 | exact hdep.2.2 | exact hdep.2.2.1 | exact hdep.2.2.2
    have e1 := (f1 d1); subst e1
    clear hdep
    have c : X.cell? ⟨w.heap.size, 0, none⟩ = some (.int .i64 (kd : Int)) := by rw [← hkd]; exact Kn.c hw (b := w.heap.size) (T := 37) (vs := x.cs s q) (by simp) 0 _ rfl
    have F0 := Lib.hid f0
    have F1 := Lib.hid f1
    have F2 := Lib.hid f2
    have F3 := Lib.hid f3
    have F4 := Lib.hid f4
    have F5 := Lib.hid f5
    have F6 := Lib.hid f6
    have F7 := Lib.hid f7
    have F8 := Lib.hid f8
    have F9 := Lib.hid f9
    have F10 := Lib.hid f10
    have F11 := Lib.hid f11
    have F12 := Lib.hid f12
    have F13 := Lib.hid f13
    have F14 := Lib.hid f14
    have F15 := Lib.hid f15
    have F16 := Lib.hid f16
    have F17 := Lib.hid f17
    have F18 := Lib.hid f18
    have F19 := Lib.hid f19
    have F20 := Lib.hid f20
    have HW := Lib.hid hw
    clear hw f0 f1 f2 f3 f4 f5 f6 f7 f8 f9 f10 f11 f12 f13 f14 f15 f16 f17 f18 f19 f20
    go_simp
    refine hK.out _ _ ?_
    exact ⟨_, _, _, _, _, _, _, _, _, _, _, _, _, _, _, _, _, _, _, _, _, rfl, HW.out, fun hk => (F0.out ((upd_ne (by decide)).symm.trans hk)), fun _ => rfl, fun _ => rfl, fun hk => (F3.out ((upd_ne (by decide)).symm.trans hk)), fun hk => (F4.out ((upd_ne (by decide)).symm.trans hk)), fun hk => (F5.out ((upd_ne (by decide)).symm.trans hk)), fun hk => (F6.out ((upd_ne (by decide)).symm.trans hk)), fun hk => (F7.out ((upd_ne (by decide)).symm.trans hk)), fun hk => (F8.out ((upd_ne (by decide)).symm.trans hk)), fun hk => (F9.out ((upd_ne (by decide)).symm.trans hk)), fun hk => (F10.out ((upd_ne (by decide)).symm.trans hk)), fun hk => (F11.out ((upd_ne (by decide)).symm.trans hk)), fun hk => (F12.out ((upd_ne (by decide)).symm.trans hk)), fun hk => (F13.out ((upd_ne (by decide)).symm.trans hk)), fun hk => (F14.out ((upd_ne (by decide)).symm.trans hk)), fun hk => (F15.out ((upd_ne (by decide)).symm.trans hk)), fun hk => (F16.out ((upd_ne (by decide)).symm.trans hk)), fun hk => (F17.out ((upd_ne (by decide)).symm.trans hk)), fun hk => (F18.out ((upd_ne (by decide)).symm.trans hk)), fun hk => (F19.out ((upd_ne (by decide)).symm.trans hk)), fun hk => (F20.out ((upd_ne (by decide)).symm.trans hk))⟩
  · rintro L A X ⟨v3, v6, v7, v8, v9, v10, v11, v12, v13, v14, v15, v16, v17, v18, v19, v20, v21, v22, v23, v24, v25, rfl, hw, f0, f1, f2, f3, f4, f5, f6, f7, f8, f9, f10, f11, f12, f13, f14, f15, f16, f17, f18, f19, f20⟩ hL hdep K hK
    simp at hdep
    have d0 : L 0 = true := by first | exact hdep | exact hdep.1 | exact hdep.2 | exact hdep.2.1 | exact hdep.2.2 | exact hdep.2.2.1 | exact hdep.2.2.2
    have d2 : L 2 = true := by first | exact hdep | exact hdep.1 | exact hdep.2 | exact hdep.2.1 | exact hdep.2.2 | exact hdep.2.2.1 | exact hdep.2.2.2
    obtain ⟨b0, rfl, hB0⟩ := (f0 d0)
    have e2 := (f2 d2); subst e2
    clear hdep
    have F0 := Lib.hid f0
    have F1 := Lib.hid f1
    have F2 := Lib.hid f2
    have F3 := Lib.hid f3
    have F4 := Lib.hid f4
    have F5 := Lib.hid f5
    have F6 := Lib.hid f6
    have F7 := Lib.hid f7
    have F8 := Lib.hid f8
    have F9 := Lib.hid f9
    have F10 := Lib.hid f10
    have F11 := Lib.hid f11
    have F12 := Lib.hid f12
    have F13 := Lib.hid f13
    have F14 := Lib.hid f14
    have F15 := Lib.hid f15
    have F16 := Lib.hid f16
    have F17 := Lib.hid f17
    have F18 := Lib.hid f18
    have F19 := Lib.hid f19
    have F20 := Lib.hid f20
    have HW := Lib.hid hw
    clear hw f0 f1 f2 f3 f4 f5 f6 f7 f8 f9 f10 f11 f12 f13 f14 f15 f16 f17 f18 f19 f20
    go_simp
    refine hK.out _ _ ?_
    exact ⟨_, _, _, _, _, _, _, _, _, _, _, _, _, _, _, _, _, _, _, _, _, rfl, HW.out, fun hk => (F0.out ((upd_ne (by decide)).symm.trans hk)), fun hk => (F1.out ((upd_ne (by decide)).symm.trans hk)), fun _ => rfl, fun _ => ⟨b0, rfl, hB0⟩, fun hk => (F4.out ((upd_ne (by decide)).symm.trans hk)), fun hk => (F5.out ((upd_ne (by decide)).symm.trans hk)), fun hk => (F6.out ((upd_ne (by decide)).symm.trans hk)), fun hk => (F7.out ((upd_ne (by decide)).symm.trans hk)), fun hk => (F8.out ((upd_ne (by decide)).symm.trans hk)), fun hk => (F9.out ((upd_ne (by decide)).symm.trans hk)), fun hk => (F10.out ((upd_ne (by decide)).symm.trans hk)), fun hk => (F11.out ((upd_ne (by decide)).symm.trans hk)), fun hk => (F12.out ((upd_ne (by decide)).symm.trans hk)), fun hk => (F13.out ((upd_ne (by decide)).symm.trans hk)), fun hk => (F14.out ((upd_ne (by decide)).symm.trans hk)), fun hk => (F15.out ((upd_ne (by decide)).symm.trans hk)), fun hk => (F16.out ((upd_ne (by decide)).symm.trans hk)), fun hk => (F17.out ((upd_ne (by decide)).symm.trans hk)), fun hk => (F18.out ((upd_ne (by decide)).symm.trans hk)), fun hk => (F19.out ((upd_ne (by decide)).symm.trans hk)), fun hk => (F20.out ((upd_ne (by decide)).symm.trans hk))⟩
  · rintro L A X ⟨v3, v6, v7, v8, v9, v10, v11, v12, v13, v14, v15, v16, v17, v18, v19, v20, v21, v22, v23, v24, v25, rfl, hw, f0, f1, f2, f3, f4, f5, f6, f7, f8, f9, f10, f11, f12, f13, f14, f15, f16, f17, f18, f19, f20⟩ hL hdep K hK
    simp at hdep
    have d3 : L 3 = true := by first | exact hdep | exact hdep.1 | exact hdep.2 | exact hdep.2.1 | exact hdep.2.2 | exact hdep.2.2.1 | exact hdep.2.2.2
    obtain ⟨b3, rfl, hB3⟩ := (f3 d3)
    clear hdep
    have c := hB3.cell kd _ HKN.out
    have F0 := Lib.hid f0
    have F1 := Lib.hid f1
    have F2 := Lib.hid f2
    have F3 := Lib.hid f3
    have F4 := Lib.hid f4
    have F5 := Lib.hid f5
    have F6 := Lib.hid f6
    have F7 := Lib.hid f7
    have F8 := Lib.hid f8
    have F9 := Lib.hid f9
    have F10 := Lib.hid f10
    have F11 := Lib.hid f11
    have F12 := Lib.hid f12
    have F13 := Lib.hid f13
    have F14 := Lib.hid f14
    have F15 := Lib.hid f15
    have F16 := Lib.hid f16
    have F17 := Lib.hid f17
    have F18 := Lib.hid f18
    have F19 := Lib.hid f19
    have F20 := Lib.hid f20
    have HW := Lib.hid hw
    clear hw f0 f1 f2 f3 f4 f5 f6 f7 f8 f9 f10 f11 f12 f13 f14 f15 f16 f17 f18 f19 f20
    go_simp
    refine hK.out _ _ ?_
    exact ⟨_, _, _, _, _, _, _, _, _, _, _, _, _, _, _, _, _, _, _, _, _, rfl, HW.out, fun hk => (F0.out ((upd_ne (by decide)).symm.trans hk)), fun hk => (F1.out ((upd_ne (by decide)).symm.trans hk)), fun hk => (F2.out ((upd_ne (by decide)).symm.trans hk)), fun hk => (F3.out ((upd_ne (by decide)).symm.trans hk)), fun _ => rfl, fun hk => (F5.out ((upd_ne (by decide)).symm.trans hk)), fun hk => (F6.out ((upd_ne (by decide)).symm.trans hk)), fun hk => (F7.out ((upd_ne (by decide)).symm.trans hk)), fun hk => (F8.out ((upd_ne (by decide)).symm.trans hk)), fun hk => (F9.out ((upd_ne (by decide)).symm.trans hk)), fun hk => (F10.out ((upd_ne (by decide)).symm.trans hk)), fun hk => (F11.out ((upd_ne (by decide)).symm.trans hk)), fun hk => (F12.out ((upd_ne (by decide)).symm.trans hk)), fun hk => (F13.out ((upd_ne (by decide)).symm.trans hk)), fun hk => (F14.out ((upd_ne (by decide)).symm.trans hk)), fun hk => (F15.out ((upd_ne (by decide)).symm.trans hk)), fun hk => (F16.out ((upd_ne (by decide)).symm.trans hk)), fun hk => (F17.out ((upd_ne (by decide)).symm.trans hk)), fun hk => (F18.out ((upd_ne (by decide)).symm.trans hk)), fun hk => (F19.out ((upd_ne (by decide)).symm.trans hk)), fun hk => (F20.out ((upd_ne (by decide)).symm.trans hk))⟩
  · rintro L A X ⟨v3, v6, v7, v8, v9, v10, v11, v12, v13, v14, v15, v16, v17, v18, v19, v20, v21, v22, v23, v24, v25, rfl, hw, f0, f1, f2, f3, f4, f5, f6, f7, f8, f9, f10, f11, f12, f13, f14, f15, f16, f17, f18, f19, f20⟩ hL hdep K hK
    simp at hdep
    have d4 : L 4 = true := by first | exact hdep | exact hdep.1 | exact hdep.2 | exact hdep.2.1 | exact hdep.2.2 | exact hdep.2.2.1 | exact hdep.2.2.2
    have e4 := (f4 d4); subst e4
    clear hdep
    have F0 := Lib.hid f0
    have F1 := Lib.hid f1
    have F2 := Lib.hid f2
    have F3 := Lib.hid f3
    have F4 := Lib.hid f4
    have F5 := Lib.hid f5
    have F6 := Lib.hid f6
    have F7 := Lib.hid f7
    have F8 := Lib.hid f8
    have F9 := Lib.hid f9
    have F10 := Lib.hid f10
    have F11 := Lib.hid f11
    have F12 := Lib.hid f12
    have F13 := Lib.hid f13
    have F14 := Lib.hid f14
    have F15 := Lib.hid f15
    have F16 := Lib.hid f16
    have F17 := Lib.hid f17
    have F18 := Lib.hid f18
    have F19 := Lib.hid f19
    have F20 := Lib.hid f20
    have HW := Lib.hid hw
    clear hw f0 f1 f2 f3 f4 f5 f6 f7 f8 f9 f10 f11 f12 f13 f14 f15 f16 f17 f18 f19 f20
    go_simp
    refine hK.out _ _ ?_
    exact ⟨_, _, _, _, _, _, _, _, _, _, _, _, _, _, _, _, _, _, _, _, _, rfl, HW.out, fun hk => (F0.out ((upd_ne (by decide)).symm.trans hk)), fun hk => (F1.out ((upd_ne (by decide)).symm.trans hk)), fun hk => (F2.out ((upd_ne (by decide)).symm.trans hk)), fun hk => (F3.out ((upd_ne (by decide)).symm.trans hk)), fun _ => rfl, fun _ => rfl, fun hk => (F6.out ((upd_ne (by decide)).symm.trans hk)), fun hk => (F7.out ((upd_ne (by decide)).symm.trans hk)), fun hk => (F8.out ((upd_ne (by decide)).symm.trans hk)), fun hk => (F9.out ((upd_ne (by decide)).symm.trans hk)), fun hk => (F10.out ((upd_ne (by decide)).symm.trans hk)), fun hk => (F11.out ((upd_ne (by decide)).symm.trans hk)), fun hk => (F12.out ((upd_ne (by decide)).symm.trans hk)), fun hk => (F13.out ((upd_ne (by decide)).symm.trans hk)), fun hk => (F14.out ((upd_ne (by decide)).symm.trans hk)), fun hk => (F15.out ((upd_ne (by decide)).symm.trans hk)), fun hk => (F16.out ((upd_ne (by decide)).symm.trans hk)), fun hk => (F17.out ((upd_ne (by decide)).symm.trans hk)), fun hk => (F18.out ((upd_ne (by decide)).symm.trans hk)), fun hk => (F19.out ((upd_ne (by decide)).symm.trans hk)), fun hk => (F20.out ((upd_ne (by decide)).symm.trans hk))⟩
  · rintro L A X ⟨v3, v6, v7, v8, v9, v10, v11, v12, v13, v14, v15, v16, v17, v18, v19, v20, v21, v22, v23, v24, v25, rfl, hw, f0, f1, f2, f3, f4, f5, f6, f7, f8, f9, f10, f11, f12, f13, f14, f15, f16, f17, f18, f19, f20⟩ hL hdep K hK
    clear hdep
    have F0 := Lib.hid f0
    have F1 := Lib.hid f1
    have F2 := Lib.hid f2
    have F3 := Lib.hid f3
    have F4 := Lib.hid f4
    have F5 := Lib.hid f5
    have F6 := Lib.hid f6
    have F7 := Lib.hid f7
    have F8 := Lib.hid f8
    have F9 := Lib.hid f9
    have F10 := Lib.hid f10
    have F11 := Lib.hid f11
    have F12 := Lib.hid f12
    have F13 := Lib.hid f13
    have F14 := Lib.hid f14
    have F15 := Lib.hid f15
    have F16 := Lib.hid f16
    have F17 := Lib.hid f17
    have F18 := Lib.hid f18
    have F19 := Lib.hid f19
    have F20 := Lib.hid f20
    have HW := Lib.hid hw
    clear hw f0 f1 f2 f3 f4 f5 f6 f7 f8 f9 f10 f11 f12 f13 f14 f15 f16 f17 f18 f19 f20
    go_simp
    refine hK.out _ _ ?_
    exact ⟨_, _, _, _, _, _, _, _, _, _, _, _, _, _, _, _, _, _, _, _, _, rfl, HW.out, fun hk => (F0.out ((upd_ne (by decide)).symm.trans hk)), fun hk => (F1.out ((upd_ne (by decide)).symm.trans hk)), fun hk => (F2.out ((upd_ne (by decide)).symm.trans hk)), fun hk => (F3.out ((upd_ne (by decide)).symm.trans hk)), fun hk => (F4.out ((upd_ne (by decide)).symm.trans hk)), fun hk => (F5.out ((upd_ne (by decide)).symm.trans hk)), fun _ => rfl, fun hk => (F7.out ((upd_ne (by decide)).symm.trans hk)), fun hk => (F8.out ((upd_ne (by decide)).symm.trans hk)), fun hk => (F9.out ((upd_ne (by decide)).symm.trans hk)), fun hk => (F10.out ((upd_ne (by decide)).symm.trans hk)), fun hk => (F11.out ((upd_ne (by decide)).symm.trans hk)), fun hk => (F12.out ((upd_ne (by decide)).symm.trans hk)), fun hk => (F13.out ((upd_ne (by decide)).symm.trans hk)), fun hk => (F14.out ((upd_ne (by decide)).symm.trans hk)), fun hk => (F15.out ((upd_ne (by decide)).symm.trans hk)), fun hk => (F16.out ((upd_ne (by decide)).symm.trans hk)), fun hk => (F17.out ((upd_ne (by decide)).symm.trans hk)), fun hk => (F18.out ((upd_ne (by decide)).symm.trans hk)), fun hk => (F19.out ((upd_ne (by decide)).symm.trans hk)), fun hk => (F20.out ((upd_ne (by decide)).symm.trans hk))⟩
  · rintro L A X ⟨v3, v6, v7, v8, v9, v10, v11, v12, v13, v14, v15, v16, v17, v18, v19, v20, v21, v22, v23, v24, v25, rfl, hw, f0, f1, f2, f3, f4, f5, f6, f7, f8, f9, f10, f11, f12, f13, f14, f15, f16, f17, f18, f19, f20⟩ hL hdep K hK
    simp at hdep
    have d6 : L 6 = true := by first | exact hdep | exact hdep.1 | exact hdep.2 | exact hdep.2.1 | exact hdep.2.2 | exact hdep.2.2.1 | exact hdep.2.2.2
    have e6 := (f6 d6); subst e6
    clear hdep
    have c := Kn.c hw (b := w.heap.size) (T := 37) (vs := x.cs s q) (by simp) 1 _ rfl
    have c2 := Kn.c hw (b := w.heap.size) (T := 37) (vs := x.cs s q) (by simp) 2 _ rfl
    have F0 := Lib.hid f0
    have F1 := Lib.hid f1
    have F2 := Lib.hid f2
    have F3 := Lib.hid f3
    have F4 := Lib.hid f4
    have F5 := Lib.hid f5
    have F6 := Lib.hid f6
    have F7 := Lib.hid f7
    have F8 := Lib.hid f8
    have F9 := Lib.hid f9
    have F10 := Lib.hid f10
    have F11 := Lib.hid f11
    have F12 := Lib.hid f12
    have F13 := Lib.hid f13
    have F14 := Lib.hid f14
    have F15 := Lib.hid f15
    have F16 := Lib.hid f16
    have F17 := Lib.hid f17
    have F18 := Lib.hid f18
    have F19 := Lib.hid f19
    have F20 := Lib.hid f20
    have HW := Lib.hid hw
    clear hw f0 f1 f2 f3 f4 f5 f6 f7 f8 f9 f10 f11 f12 f13 f14 f15 f16 f17 f18 f19 f20
    go_simp
    refine hK.out _ _ ?_
    exact ⟨_, _, _, _, _, _, _, _, _, _, _, _, _, _, _, _, _, _, _, _, _, rfl, HW.out, fun hk => (F0.out ((upd_ne (by decide)).symm.trans hk)), fun hk => (F1.out ((upd_ne (by decide)).symm.trans hk)), fun hk => (F2.out ((upd_ne (by decide)).symm.trans hk)), fun hk => (F3.out ((upd_ne (by decide)).symm.trans hk)), fun hk => (F4.out ((upd_ne (by decide)).symm.trans hk)), fun hk => (F5.out ((upd_ne (by decide)).symm.trans hk)), fun _ => rfl, fun _ => rfl, fun hk => (F8.out ((upd_ne (by decide)).symm.trans hk)), fun hk => (F9.out ((upd_ne (by decide)).symm.trans hk)), fun hk => (F10.out ((upd_ne (by decide)).symm.trans hk)), fun hk => (F11.out ((upd_ne (by decide)).symm.trans hk)), fun hk => (F12.out ((upd_ne (by decide)).symm.trans hk)), fun hk => (F13.out ((upd_ne (by decide)).symm.trans hk)), fun hk => (F14.out ((upd_ne (by decide)).symm.trans hk)), fun hk => (F15.out ((upd_ne (by decide)).symm.trans hk)), fun hk => (F16.out ((upd_ne (by decide)).symm.trans hk)), fun hk => (F17.out ((upd_ne (by decide)).symm.trans hk)), fun hk => (F18.out ((upd_ne (by decide)).symm.trans hk)), fun hk => (F19.out ((upd_ne (by decide)).symm.trans hk)), fun hk => (F20.out ((upd_ne (by decide)).symm.trans hk))⟩
  · rintro L A X ⟨v3, v6, v7, v8, v9, v10, v11, v12, v13, v14, v15, v16, v17, v18, v19, v20, v21, v22, v23, v24, v25, rfl, hw, f0, f1, f2, f3, f4, f5, f6, f7, f8, f9, f10, f11, f12, f13, f14, f15, f16, f17, f18, f19, f20⟩ hL hdep K hK
    simp at hdep
    have d7 : L 7 = true := by first | exact hdep | exact hdep.1 | exact hdep.2 | exact hdep.2.1 | exact hdep.2.2 | exact hdep.2.2.1 | exact hdep.2.2.2
    have e7 := (f7 d7); subst e7
    clear hdep
    have F0 := Lib.hid f0
    have F1 := Lib.hid f1
    have F2 := Lib.hid f2
    have F3 := Lib.hid f3
    have F4 := Lib.hid f4
    have F5 := Lib.hid f5
    have F6 := Lib.hid f6
    have F7 := Lib.hid f7
    have F8 := Lib.hid f8
    have F9 := Lib.hid f9
    have F10 := Lib.hid f10
    have F11 := Lib.hid f11
    have F12 := Lib.hid f12
    have F13 := Lib.hid f13
    have F14 := Lib.hid f14
    have F15 := Lib.hid f15
    have F16 := Lib.hid f16
    have F17 := Lib.hid f17
    have F18 := Lib.hid f18
    have F19 := Lib.hid f19
    have F20 := Lib.hid f20
    have HW := Lib.hid hw
    clear hw f0 f1 f2 f3 f4 f5 f6 f7 f8 f9 f10 f11 f12 f13 f14 f15 f16 f17 f18 f19 f20
    go_simp
    refine (G1.out _).mono ?_
    rintro e y ⟨rfl, hb⟩
    go_simp
    refine hK.out _ _ ?_
    exact ⟨_, _, _, _, _, _, _, _, _, _, _, _, _, _, _, _, _, _, _, _, _, rfl, Kn.stay HW.out hb, fun hk => (let ⟨b, e, hB⟩ := (F0.out ((upd_ne (by decide)).symm.trans hk)); ⟨b, e, hB.stay hb⟩), fun hk => (F1.out ((upd_ne (by decide)).symm.trans hk)), fun hk => (F2.out ((upd_ne (by decide)).symm.trans hk)), fun hk => (let ⟨b, e, hB⟩ := (F3.out ((upd_ne (by decide)).symm.trans hk)); ⟨b, e, hB.stay hb⟩), fun hk => (F4.out ((upd_ne (by decide)).symm.trans hk)), fun hk => (F5.out ((upd_ne (by decide)).symm.trans hk)), fun hk => (F6.out ((upd_ne (by decide)).symm.trans hk)), fun _ => rfl, fun _ => rfl, fun hk => (F9.out ((upd_ne (by decide)).symm.trans hk)), fun hk => (F10.out ((upd_ne (by decide)).symm.trans hk)), fun hk => (F11.out ((upd_ne (by decide)).symm.trans hk)), fun hk => (F12.out ((upd_ne (by decide)).symm.trans hk)), fun hk => (F13.out ((upd_ne (by decide)).symm.trans hk)), fun hk => (F14.out ((upd_ne (by decide)).symm.trans hk)), fun hk => (F15.out ((upd_ne (by decide)).symm.trans hk)), fun hk => (F16.out ((upd_ne (by decide)).symm.trans hk)), fun hk => (F17.out ((upd_ne (by decide)).symm.trans hk)), fun hk => (F18.out ((upd_ne (by decide)).symm.trans hk)), fun hk => (F19.out ((upd_ne (by decide)).symm.trans hk)), fun hk => (F20.out ((upd_ne (by decide)).symm.trans hk))⟩
  · rintro L A X ⟨v3, v6, v7, v8, v9, v10, v11, v12, v13, v14, v15, v16, v17, v18, v19, v20, v21, v22, v23, v24, v25, rfl, hw, f0, f1, f2, f3, f4, f5, f6, f7, f8, f9, f10, f11, f12, f13, f14, f15, f16, f17, f18, f19, f20⟩ hL hdep K hK
    simp at hdep
    have d5 : L 5 = true := by first | exact hdep | exact hdep.1 | exact hdep.2 | exact hdep.2.1 | exact hdep.2.2 | exact hdep.2.2.1 | exact hdep.2.2.2
    have d8 : L 8 = true := by first | exact hdep | exact hdep.1 | exact hdep.2 | exact hdep.2.1 | exact hdep.2.2 | exact hdep.2.2.1 | exact hdep.2.2.2
    have e5 := (f5 d5); subst e5
    have e8 := (f8 d8); subst e8
    clear hdep
    have F0 := Lib.hid f0
    have F1 := Lib.hid f1
    have F2 := Lib.hid f2
    have F3 := Lib.hid f3
    have F4 := Lib.hid f4
    have F5 := Lib.hid f5
    have F6 := Lib.hid f6
    have F7 := Lib.hid f7
    have F8 := Lib.hid f8
    have F9 := Lib.hid f9
    have F10 := Lib.hid f10
    have F11 := Lib.hid f11
    have F12 := Lib.hid f12
    have F13 := Lib.hid f13
    have F14 := Lib.hid f14
    have F15 := Lib.hid f15
    have F16 := Lib.hid f16
    have F17 := Lib.hid f17
    have F18 := Lib.hid f18
    have F19 := Lib.hid f19
    have F20 := Lib.hid f20
    have HW := Lib.hid hw
    clear hw f0 f1 f2 f3 f4 f5 f6 f7 f8 f9 f10 f11 f12 f13 f14 f15 f16 f17 f18 f19 f20
    go_simp
    refine hK.out _ _ ?_
    exact ⟨_, _, _, _, _, _, _, _, _, _, _, _, _, _, _, _, _, _, _, _, _, rfl, HW.out, fun hk => (F0.out ((upd_ne (by decide)).symm.trans hk)), fun hk => (F1.out ((upd_ne (by decide)).symm.trans hk)), fun hk => (F2.out ((upd_ne (by decide)).symm.trans hk)), fun hk => (F3.out ((upd_ne (by decide)).symm.trans hk)), fun hk => (F4.out ((upd_ne (by decide)).symm.trans hk)), fun _ => rfl, fun hk => (F6.out ((upd_ne (by decide)).symm.trans hk)), fun hk => (F7.out ((upd_ne (by decide)).symm.trans hk)), fun _ => rfl, fun _ => rfl, fun hk => (F10.out ((upd_ne (by decide)).symm.trans hk)), fun hk => (F11.out ((upd_ne (by decide)).symm.trans hk)), fun hk => (F12.out ((upd_ne (by decide)).symm.trans hk)), fun hk => (F13.out ((upd_ne (by decide)).symm.trans hk)), fun hk => (F14.out ((upd_ne (by decide)).symm.trans hk)), fun hk => (F15.out ((upd_ne (by decide)).symm.trans hk)), fun hk => (F16.out ((upd_ne (by decide)).symm.trans hk)), fun hk => (F17.out ((upd_ne (by decide)).symm.trans hk)), fun hk => (F18.out ((upd_ne (by decide)).symm.trans hk)), fun hk => (F19.out ((upd_ne (by decide)).symm.trans hk)), fun hk => (F20.out ((upd_ne (by decide)).symm.trans hk))⟩
  · rintro L A X ⟨v3, v6, v7, v8, v9, v10, v11, v12, v13, v14, v15, v16, v17, v18, v19, v20, v21, v22, v23, v24, v25, rfl, hw, f0, f1, f2, f3, f4, f5, f6, f7, f8, f9, f10, f11, f12, f13, f14, f15, f16, f17, f18, f19, f20⟩ hL hdep K hK
    simp at hdep
    have d9 : L 9 = true := by first | exact hdep | exact hdep.1 | exact hdep.2 | exact hdep.2.1 | exact hdep.2.2 | exact hdep.2.2.1 | exact hdep.2.2.2
    have e9 := (f9 d9); subst e9
    clear hdep
    have F0 := Lib.hid f0
    have F1 := Lib.hid f1
    have F2 := Lib.hid f2
    have F3 := Lib.hid f3
    have F4 := Lib.hid f4
    have F5 := Lib.hid f5
    have F6 := Lib.hid f6
    have F7 := Lib.hid f7
    have F8 := Lib.hid f8
    have F9 := Lib.hid f9
    have F10 := Lib.hid f10
    have F11 := Lib.hid f11
    have F12 := Lib.hid f12
    have F13 := Lib.hid f13
    have F14 := Lib.hid f14
    have F15 := Lib.hid f15
    have F16 := Lib.hid f16
    have F17 := Lib.hid f17
    have F18 := Lib.hid f18
    have F19 := Lib.hid f19
    have F20 := Lib.hid f20
    have HW := Lib.hid hw
    clear hw f0 f1 f2 f3 f4 f5 f6 f7 f8 f9 f10 f11 f12 f13 f14 f15 f16 f17 f18 f19 f20
    go_simp
    refine hK.out _ _ ?_
    exact ⟨_, _, _, _, _, _, _, _, _, _, _, _, _, _, _, _, _, _, _, _, _, rfl, HW.out, fun hk => (F0.out ((upd_ne (by decide)).symm.trans hk)), fun hk => (F1.out ((upd_ne (by decide)).symm.trans hk)), fun hk => (F2.out ((upd_ne (by decide)).symm.trans hk)), fun hk => (F3.out ((upd_ne (by decide)).symm.trans hk)), fun hk => (F4.out ((upd_ne (by decide)).symm.trans hk)), fun hk => (F5.out ((upd_ne (by decide)).symm.trans hk)), fun hk => (F6.out ((upd_ne (by decide)).symm.trans hk)), fun hk => (F7.out ((upd_ne (by decide)).symm.trans hk)), fun hk => (F8.out ((upd_ne (by decide)).symm.trans hk)), fun _ => rfl, fun _ => rfl, fun hk => (F11.out ((upd_ne (by decide)).symm.trans hk)), fun hk => (F12.out ((upd_ne (by decide)).symm.trans hk)), fun hk => (F13.out ((upd_ne (by decide)).symm.trans hk)), fun hk => (F14.out ((upd_ne (by decide)).symm.trans hk)), fun hk => (F15.out ((upd_ne (by decide)).symm.trans hk)), fun hk => (F16.out ((upd_ne (by decide)).symm.trans hk)), fun hk => (F17.out ((upd_ne (by decide)).symm.trans hk)), fun hk => (F18.out ((upd_ne (by decide)).symm.trans hk)), fun hk => (F19.out ((upd_ne (by decide)).symm.trans hk)), fun hk => (F20.out ((upd_ne (by decide)).symm.trans hk))⟩
  · rintro L A X ⟨v3, v6, v7, v8, v9, v10, v11, v12, v13, v14, v15, v16, v17, v18, v19, v20, v21, v22, v23, v24, v25, rfl, hw, f0, f1, f2, f3, f4, f5, f6, f7, f8, f9, f10, f11, f12, f13, f14, f15, f16, f17, f18, f19, f20⟩ hL hdep K hK
    clear hdep
    have F0 := Lib.hid f0
    have F1 := Lib.hid f1
    have F2 := Lib.hid f2
    have F3 := Lib.hid f3
    have F4 := Lib.hid f4
    have F5 := Lib.hid f5
    have F6 := Lib.hid f6
    have F7 := Lib.hid f7
    have F8 := Lib.hid f8
    have F9 := Lib.hid f9
    have F10 := Lib.hid f10
    have F11 := Lib.hid f11
    have F12 := Lib.hid f12
    have F13 := Lib.hid f13
    have F14 := Lib.hid f14
    have F15 := Lib.hid f15
    have F16 := Lib.hid f16
    have F17 := Lib.hid f17
    have F18 := Lib.hid f18
    have F19 := Lib.hid f19
    have F20 := Lib.hid f20
    have HW := Lib.hid hw
    clear hw f0 f1 f2 f3 f4 f5 f6 f7 f8 f9 f10 f11 f12 f13 f14 f15 f16 f17 f18 f19 f20
    go_simp
    refine hK.out _ _ ?_
    exact ⟨_, _, _, _, _, _, _, _, _, _, _, _, _, _, _, _, _, _, _, _, _, rfl, HW.out, fun hk => (F0.out ((upd_ne (by decide)).symm.trans hk)), fun hk => (F1.out ((upd_ne (by decide)).symm.trans hk)), fun hk => (F2.out ((upd_ne (by decide)).symm.trans hk)), fun hk => (F3.out ((upd_ne (by decide)).symm.trans hk)), fun hk => (F4.out ((upd_ne (by decide)).symm.trans hk)), fun hk => (F5.out ((upd_ne (by decide)).symm.trans hk)), fun hk => (F6.out ((upd_ne (by decide)).symm.trans hk)), fun hk => (F7.out ((upd_ne (by decide)).symm.trans hk)), fun hk => (F8.out ((upd_ne (by decide)).symm.trans hk)), fun hk => (F9.out ((upd_ne (by decide)).symm.trans hk)), fun hk => (F10.out ((upd_ne (by decide)).symm.trans hk)), fun _ => rfl, fun hk => (F12.out ((upd_ne (by decide)).symm.trans hk)), fun hk => (F13.out ((upd_ne (by decide)).symm.trans hk)), fun hk => (F14.out ((upd_ne (by decide)).symm.trans hk)), fun hk => (F15.out ((upd_ne (by decide)).symm.trans hk)), fun hk => (F16.out ((upd_ne (by decide)).symm.trans hk)), fun hk => (F17.out ((upd_ne (by decide)).symm.trans hk)), fun hk => (F18.out ((upd_ne (by decide)).symm.trans hk)), fun hk => (F19.out ((upd_ne (by decide)).symm.trans hk)), fun hk => (F20.out ((upd_ne (by decide)).symm.trans hk))⟩
  · rintro L A X ⟨v3, v6, v7, v8, v9, v10, v11, v12, v13, v14, v15, v16, v17, v18, v19, v20, v21, v22, v23, v24, v25, rfl, hw, f0, f1, f2, f3, f4, f5, f6, f7, f8, f9, f10, f11, f12, f13, f14, f15, f16, f17, f18, f19, f20⟩ hL hdep K hK
    simp at hdep
    have d11 : L 11 = true := by first | exact hdep | exact hdep.1 | exact hdep.2 | exact hdep.2.1 | exact hdep.2.2 | exact hdep.2.2.1 | exact hdep.2.2.2
    have e11 := (f11 d11); subst e11
    clear hdep
    have c := Kn.c hw (b := w.heap.size) (T := 37) (vs := x.cs s q) (by simp) 3 _ rfl
    have F0 := Lib.hid f0
    have F1 := Lib.hid f1
    have F2 := Lib.hid f2
    have F3 := Lib.hid f3
    have F4 := Lib.hid f4
    have F5 := Lib.hid f5
    have F6 := Lib.hid f6
    have F7 := Lib.hid f7
    have F8 := Lib.hid f8
    have F9 := Lib.hid f9
    have F10 := Lib.hid f10
    have F11 := Lib.hid f11
    have F12 := Lib.hid f12
    have F13 := Lib.hid f13
    have F14 := Lib.hid f14
    have F15 := Lib.hid f15
    have F16 := Lib.hid f16
    have F17 := Lib.hid f17
    have F18 := Lib.hid f18
    have F19 := Lib.hid f19
    have F20 := Lib.hid f20
    have HW := Lib.hid hw
    clear hw f0 f1 f2 f3 f4 f5 f6 f7 f8 f9 f10 f11 f12 f13 f14 f15 f16 f17 f18 f19 f20
    go_simp
    refine hK.out _ _ ?_
    exact ⟨_, _, _, _, _, _, _, _, _, _, _, _, _, _, _, _, _, _, _, _, _, rfl, HW.out, fun hk => (F0.out ((upd_ne (by decide)).symm.trans hk)), fun hk => (F1.out ((upd_ne (by decide)).symm.trans hk)), fun hk => (F2.out ((upd_ne (by decide)).symm.trans hk)), fun hk => (F3.out ((upd_ne (by decide)).symm.trans hk)), fun hk => (F4.out ((upd_ne (by decide)).symm.trans hk)), fun hk => (F5.out ((upd_ne (by decide)).symm.trans hk)), fun hk => (F6.out ((upd_ne (by decide)).symm.trans hk)), fun hk => (F7.out ((upd_ne (by decide)).symm.trans hk)), fun hk => (F8.out ((upd_ne (by decide)).symm.trans hk)), fun hk => (F9.out ((upd_ne (by decide)).symm.trans hk)), fun hk => (F10.out ((upd_ne (by decide)).symm.trans hk)), fun _ => rfl, fun _ => rfl, fun hk => (F13.out ((upd_ne (by decide)).symm.trans hk)), fun hk => (F14.out ((upd_ne (by decide)).symm.trans hk)), fun hk => (F15.out ((upd_ne (by decide)).symm.trans hk)), fun hk => (F16.out ((upd_ne (by decide)).symm.trans hk)), fun hk => (F17.out ((upd_ne (by decide)).symm.trans hk)), fun hk => (F18.out ((upd_ne (by decide)).symm.trans hk)), fun hk => (F19.out ((upd_ne (by decide)).symm.trans hk)), fun hk => (F20.out ((upd_ne (by decide)).symm.trans hk))⟩
  · rintro L A X ⟨v3, v6, v7, v8, v9, v10, v11, v12, v13, v14, v15, v16, v17, v18, v19, v20, v21, v22, v23, v24, v25, rfl, hw, f0, f1, f2, f3, f4, f5, f6, f7, f8, f9, f10, f11, f12, f13, f14, f15, f16, f17, f18, f19, f20⟩ hL hdep K hK
    simp at hdep
    have d12 : L 12 = true := by first | exact hdep | exact hdep.1 | exact hdep.2 | exact hdep.2.1 | exact hdep.2.2 | exact hdep.2.2.1 | exact hdep.2.2.2
    have e12 := (f12 d12); subst e12
    clear hdep
    have F0 := Lib.hid f0
    have F1 := Lib.hid f1
    have F2 := Lib.hid f2
    have F3 := Lib.hid f3
    have F4 := Lib.hid f4
    have F5 := Lib.hid f5
    have F6 := Lib.hid f6
    have F7 := Lib.hid f7
    have F8 := Lib.hid f8
    have F9 := Lib.hid f9
    have F10 := Lib.hid f10
    have F11 := Lib.hid f11
    have F12 := Lib.hid f12
    have F13 := Lib.hid f13
    have F14 := Lib.hid f14
    have F15 := Lib.hid f15
    have F16 := Lib.hid f16
    have F17 := Lib.hid f17
    have F18 := Lib.hid f18
    have F19 := Lib.hid f19
    have F20 := Lib.hid f20
    have HW := Lib.hid hw
    clear hw f0 f1 f2 f3 f4 f5 f6 f7 f8 f9 f10 f11 f12 f13 f14 f15 f16 f17 f18 f19 f20
    go_simp
    refine (G2.out _).mono ?_
    rintro e y ⟨rfl, hb⟩
    go_simp
    refine hK.out _ _ ?_
    exact ⟨_, _, _, _, _, _, _, _, _, _, _, _, _, _, _, _, _, _, _, _, _, rfl, Kn.stay HW.out hb, fun hk => (let ⟨b, e, hB⟩ := (F0.out ((upd_ne (by decide)).symm.trans hk)); ⟨b, e, hB.stay hb⟩), fun hk => (F1.out ((upd_ne (by decide)).symm.trans hk)), fun hk => (F2.out ((upd_ne (by decide)).symm.trans hk)), fun hk => (let ⟨b, e, hB⟩ := (F3.out ((upd_ne (by decide)).symm.trans hk)); ⟨b, e, hB.stay hb⟩), fun hk => (F4.out ((upd_ne (by decide)).symm.trans hk)), fun hk => (F5.out ((upd_ne (by decide)).symm.trans hk)), fun hk => (F6.out ((upd_ne (by decide)).symm.trans hk)), fun hk => (F7.out ((upd_ne (by decide)).symm.trans hk)), fun hk => (F8.out ((upd_ne (by decide)).symm.trans hk)), fun hk => (F9.out ((upd_ne (by decide)).symm.trans hk)), fun hk => (F10.out ((upd_ne (by decide)).symm.trans hk)), fun hk => (F11.out ((upd_ne (by decide)).symm.trans hk)), fun _ => rfl, fun _ => rfl, fun hk => (F14.out ((upd_ne (by decide)).symm.trans hk)), fun hk => (F15.out ((upd_ne (by decide)).symm.trans hk)), fun hk => (F16.out ((upd_ne (by decide)).symm.trans hk)), fun hk => (F17.out ((upd_ne (by decide)).symm.trans hk)), fun hk => (F18.out ((upd_ne (by decide)).symm.trans hk)), fun hk => (F19.out ((upd_ne (by decide)).symm.trans hk)), fun hk => (F20.out ((upd_ne (by decide)).symm.trans hk))⟩
  · rintro L A X ⟨v3, v6, v7, v8, v9, v10, v11, v12, v13, v14, v15, v16, v17, v18, v19, v20, v21, v22, v23, v24, v25, rfl, hw, f0, f1, f2, f3, f4, f5, f6, f7, f8, f9, f10, f11, f12, f13, f14, f15, f16, f17, f18, f19, f20⟩ hL hdep K hK
    simp at hdep
    have d10 : L 10 = true := by first | exact hdep | exact hdep.1 | exact hdep.2 | exact hdep.2.1 | exact hdep.2.2 | exact hdep.2.2.1 | exact hdep.2.2.2
    have d13 : L 13 = true := by first | exact hdep | exact hdep.1 | exact hdep.2 | exact hdep.2.1 | exact hdep.2.2 | exact hdep.2.2.1 | exact hdep.2.2.2
    have e10 := (f10 d10); subst e10
    have e13 := (f13 d13); subst e13
    clear hdep
    have F0 := Lib.hid f0
    have F1 := Lib.hid f1
    have F2 := Lib.hid f2
    have F3 := Lib.hid f3
    have F4 := Lib.hid f4
    have F5 := Lib.hid f5
    have F6 := Lib.hid f6
    have F7 := Lib.hid f7
    have F8 := Lib.hid f8
    have F9 := Lib.hid f9
    have F10 := Lib.hid f10
    have F11 := Lib.hid f11
    have F12 := Lib.hid f12
    have F13 := Lib.hid f13
    have F14 := Lib.hid f14
    have F15 := Lib.hid f15
    have F16 := Lib.hid f16
    have F17 := Lib.hid f17
    have F18 := Lib.hid f18
    have F19 := Lib.hid f19
    have F20 := Lib.hid f20
    have HW := Lib.hid hw
    clear hw f0 f1 f2 f3 f4 f5 f6 f7 f8 f9 f10 f11 f12 f13 f14 f15 f16 f17 f18 f19 f20
    go_simp
    refine hK.out _ _ ?_
    exact ⟨_, _, _, _, _, _, _, _, _, _, _, _, _, _, _, _, _, _, _, _, _, rfl, HW.out, fun hk => (F0.out ((upd_ne (by decide)).symm.trans hk)), fun hk => (F1.out ((upd_ne (by decide)).symm.trans hk)), fun hk => (F2.out ((upd_ne (by decide)).symm.trans hk)), fun hk => (F3.out ((upd_ne (by decide)).symm.trans hk)), fun hk => (F4.out ((upd_ne (by decide)).symm.trans hk)), fun hk => (F5.out ((upd_ne (by decide)).symm.trans hk)), fun hk => (F6.out ((upd_ne (by decide)).symm.trans hk)), fun hk => (F7.out ((upd_ne (by decide)).symm.trans hk)), fun hk => (F8.out ((upd_ne (by decide)).symm.trans hk)), fun hk => (F9.out ((upd_ne (by decide)).symm.trans hk)), fun _ => rfl, fun hk => (F11.out ((upd_ne (by decide)).symm.trans hk)), fun hk => (F12.out ((upd_ne (by decide)).symm.trans hk)), fun _ => rfl, fun _ => rfl, fun hk => (F15.out ((upd_ne (by decide)).symm.trans hk)), fun hk => (F16.out ((upd_ne (by decide)).symm.trans hk)), fun hk => (F17.out ((upd_ne (by decide)).symm.trans hk)), fun hk => (F18.out ((upd_ne (by decide)).symm.trans hk)), fun hk => (F19.out ((upd_ne (by decide)).symm.trans hk)), fun hk => (F20.out ((upd_ne (by decide)).symm.trans hk))⟩
  · rintro L A X ⟨v3, v6, v7, v8, v9, v10, v11, v12, v13, v14, v15, v16, v17, v18, v19, v20, v21, v22, v23, v24, v25, rfl, hw, f0, f1, f2, f3, f4, f5, f6, f7, f8, f9, f10, f11, f12, f13, f14, f15, f16, f17, f18, f19, f20⟩ hL hdep K hK
    simp at hdep
    have d14 : L 14 = true := by first | exact hdep | exact hdep.1 | exact hdep.2 | exact hdep.2.1 | exact hdep.2.2 | exact hdep.2.2.1 | exact hdep.2.2.2
    have e14 := (f14 d14); subst e14
    clear hdep
    have F0 := Lib.hid f0
    have F1 := Lib.hid f1
    have F2 := Lib.hid f2
    have F3 := Lib.hid f3
    have F4 := Lib.hid f4
    have F5 := Lib.hid f5
    have F6 := Lib.hid f6
    have F7 := Lib.hid f7
    have F8 := Lib.hid f8
    have F9 := Lib.hid f9
    have F10 := Lib.hid f10
    have F11 := Lib.hid f11
    have F12 := Lib.hid f12
    have F13 := Lib.hid f13
    have F14 := Lib.hid f14
    have F15 := Lib.hid f15
    have F16 := Lib.hid f16
    have F17 := Lib.hid f17
    have F18 := Lib.hid f18
    have F19 := Lib.hid f19
    have F20 := Lib.hid f20
    have HW := Lib.hid hw
    clear hw f0 f1 f2 f3 f4 f5 f6 f7 f8 f9 f10 f11 f12 f13 f14 f15 f16 f17 f18 f19 f20
    go_simp
    refine hK.out _ _ ?_
    exact ⟨_, _, _, _, _, _, _, _, _, _, _, _, _, _, _, _, _, _, _, _, _, rfl, HW.out, fun hk => (F0.out ((upd_ne (by decide)).symm.trans hk)), fun hk => (F1.out ((upd_ne (by decide)).symm.trans hk)), fun hk => (F2.out ((upd_ne (by decide)).symm.trans hk)), fun hk => (F3.out ((upd_ne (by decide)).symm.trans hk)), fun hk => (F4.out ((upd_ne (by decide)).symm.trans hk)), fun hk => (F5.out ((upd_ne (by decide)).symm.trans hk)), fun hk => (F6.out ((upd_ne (by decide)).symm.trans hk)), fun hk => (F7.out ((upd_ne (by decide)).symm.trans hk)), fun hk => (F8.out ((upd_ne (by decide)).symm.trans hk)), fun hk => (F9.out ((upd_ne (by decide)).symm.trans hk)), fun hk => (F10.out ((upd_ne (by decide)).symm.trans hk)), fun hk => (F11.out ((upd_ne (by decide)).symm.trans hk)), fun hk => (F12.out ((upd_ne (by decide)).symm.trans hk)), fun hk => (F13.out ((upd_ne (by decide)).symm.trans hk)), fun _ => rfl, fun _ => rfl, fun hk => (F16.out ((upd_ne (by decide)).symm.trans hk)), fun hk => (F17.out ((upd_ne (by decide)).symm.trans hk)), fun hk => (F18.out ((upd_ne (by decide)).symm.trans hk)), fun hk => (F19.out ((upd_ne (by decide)).symm.trans hk)), fun hk => (F20.out ((upd_ne (by decide)).symm.trans hk))⟩
  · rintro L A X ⟨v3, v6, v7, v8, v9, v10, v11, v12, v13, v14, v15, v16, v17, v18, v19, v20, v21, v22, v23, v24, v25, rfl, hw, f0, f1, f2, f3, f4, f5, f6, f7, f8, f9, f10, f11, f12, f13, f14, f15, f16, f17, f18, f19, f20⟩ hL hdep K hK
    clear hdep
    have F0 := Lib.hid f0
    have F1 := Lib.hid f1
    have F2 := Lib.hid f2
    have F3 := Lib.hid f3
    have F4 := Lib.hid f4
    have F5 := Lib.hid f5
    have F6 := Lib.hid f6
    have F7 := Lib.hid f7
    have F8 := Lib.hid f8
    have F9 := Lib.hid f9
    have F10 := Lib.hid f10
    have F11 := Lib.hid f11
    have F12 := Lib.hid f12
    have F13 := Lib.hid f13
    have F14 := Lib.hid f14
    have F15 := Lib.hid f15
    have F16 := Lib.hid f16
    have F17 := Lib.hid f17
    have F18 := Lib.hid f18
    have F19 := Lib.hid f19
    have F20 := Lib.hid f20
    have HW := Lib.hid hw
    clear hw f0 f1 f2 f3 f4 f5 f6 f7 f8 f9 f10 f11 f12 f13 f14 f15 f16 f17 f18 f19 f20
    go_simp
    refine hK.out _ _ ?_
    exact ⟨_, _, _, _, _, _, _, _, _, _, _, _, _, _, _, _, _, _, _, _, _, rfl, HW.out, fun hk => (F0.out ((upd_ne (by decide)).symm.trans hk)), fun hk => (F1.out ((upd_ne (by decide)).symm.trans hk)), fun hk => (F2.out ((upd_ne (by decide)).symm.trans hk)), fun hk => (F3.out ((upd_ne (by decide)).symm.trans hk)), fun hk => (F4.out ((upd_ne (by decide)).symm.trans hk)), fun hk => (F5.out ((upd_ne (by decide)).symm.trans hk)), fun hk => (F6.out ((upd_ne (by decide)).symm.trans hk)), fun hk => (F7.out ((upd_ne (by decide)).symm.trans hk)), fun hk => (F8.out ((upd_ne (by decide)).symm.trans hk)), fun hk => (F9.out ((upd_ne (by decide)).symm.trans hk)), fun hk => (F10.out ((upd_ne (by decide)).symm.trans hk)), fun hk => (F11.out ((upd_ne (by decide)).symm.trans hk)), fun hk => (F12.out ((upd_ne (by decide)).symm.trans hk)), fun hk => (F13.out ((upd_ne (by decide)).symm.trans hk)), fun hk => (F14.out ((upd_ne (by decide)).symm.trans hk)), fun hk => (F15.out ((upd_ne (by decide)).symm.trans hk)), fun _ => rfl, fun hk => (F17.out ((upd_ne (by decide)).symm.trans hk)), fun hk => (F18.out ((upd_ne (by decide)).symm.trans hk)), fun hk => (F19.out ((upd_ne (by decide)).symm.trans hk)), fun hk => (F20.out ((upd_ne (by decide)).symm.trans hk))⟩
  · rintro L A X ⟨v3, v6, v7, v8, v9, v10, v11, v12, v13, v14, v15, v16, v17, v18, v19, v20, v21, v22, v23, v24, v25, rfl, hw, f0, f1, f2, f3, f4, f5, f6, f7, f8, f9, f10, f11, f12, f13, f14, f15, f16, f17, f18, f19, f20⟩ hL hdep K hK
    simp at hdep
    have d16 : L 16 = true := by first | exact hdep | exact hdep.1 | exact hdep.2 | exact hdep.2.1 | exact hdep.2.2 | exact hdep.2.2.1 | exact hdep.2.2.2
    have e16 := (f16 d16); subst e16
    clear hdep
    have c := Kn.c hw (b := w.heap.size) (T := 37) (vs := x.cs s q) (by simp) 4 _ rfl
    have F0 := Lib.hid f0
    have F1 := Lib.hid f1
    have F2 := Lib.hid f2
    have F3 := Lib.hid f3
    have F4 := Lib.hid f4
    have F5 := Lib.hid f5
    have F6 := Lib.hid f6
    have F7 := Lib.hid f7
    have F8 := Lib.hid f8
    have F9 := Lib.hid f9
    have F10 := Lib.hid f10
    have F11 := Lib.hid f11
    have F12 := Lib.hid f12
    have F13 := Lib.hid f13
    have F14 := Lib.hid f14
    have F15 := Lib.hid f15
    have F16 := Lib.hid f16
    have F17 := Lib.hid f17
    have F18 := Lib.hid f18
    have F19 := Lib.hid f19
    have F20 := Lib.hid f20
    have HW := Lib.hid hw
    clear hw f0 f1 f2 f3 f4 f5 f6 f7 f8 f9 f10 f11 f12 f13 f14 f15 f16 f17 f18 f19 f20
    go_simp
    refine hK.out _ _ ?_
    exact ⟨_, _, _, _, _, _, _, _, _, _, _, _, _, _, _, _, _, _, _, _, _, rfl, HW.out, fun hk => (F0.out ((upd_ne (by decide)).symm.trans hk)), fun hk => (F1.out ((upd_ne (by decide)).symm.trans hk)), fun hk => (F2.out ((upd_ne (by decide)).symm.trans hk)), fun hk => (F3.out ((upd_ne (by decide)).symm.trans hk)), fun hk => (F4.out ((upd_ne (by decide)).symm.trans hk)), fun hk => (F5.out ((upd_ne (by decide)).symm.trans hk)), fun hk => (F6.out ((upd_ne (by decide)).symm.trans hk)), fun hk => (F7.out ((upd_ne (by decide)).symm.trans hk)), fun hk => (F8.out ((upd_ne (by decide)).symm.trans hk)), fun hk => (F9.out ((upd_ne (by decide)).symm.trans hk)), fun hk => (F10.out ((upd_ne (by decide)).symm.trans hk)), fun hk => (F11.out ((upd_ne (by decide)).symm.trans hk)), fun hk => (F12.out ((upd_ne (by decide)).symm.trans hk)), fun hk => (F13.out ((upd_ne (by decide)).symm.trans hk)), fun hk => (F14.out ((upd_ne (by decide)).symm.trans hk)), fun hk => (F15.out ((upd_ne (by decide)).symm.trans hk)), fun _ => rfl, fun _ => rfl, fun hk => (F18.out ((upd_ne (by decide)).symm.trans hk)), fun hk => (F19.out ((upd_ne (by decide)).symm.trans hk)), fun hk => (F20.out ((upd_ne (by decide)).symm.trans hk))⟩
  · rintro L A X ⟨v3, v6, v7, v8, v9, v10, v11, v12, v13, v14, v15, v16, v17, v18, v19, v20, v21, v22, v23, v24, v25, rfl, hw, f0, f1, f2, f3, f4, f5, f6, f7, f8, f9, f10, f11, f12, f13, f14, f15, f16, f17, f18, f19, f20⟩ hL hdep K hK
    simp at hdep
    have d17 : L 17 = true := by first | exact hdep | exact hdep.1 | exact hdep.2 | exact hdep.2.1 | exact hdep.2.2 | exact hdep.2.2.1 | exact hdep.2.2.2
    have e17 := (f17 d17); subst e17
    clear hdep
    have F0 := Lib.hid f0
    have F1 := Lib.hid f1
    have F2 := Lib.hid f2
    have F3 := Lib.hid f3
    have F4 := Lib.hid f4
    have F5 := Lib.hid f5
    have F6 := Lib.hid f6
    have F7 := Lib.hid f7
    have F8 := Lib.hid f8
    have F9 := Lib.hid f9
    have F10 := Lib.hid f10
    have F11 := Lib.hid f11
    have F12 := Lib.hid f12
    have F13 := Lib.hid f13
    have F14 := Lib.hid f14
    have F15 := Lib.hid f15
    have F16 := Lib.hid f16
    have F17 := Lib.hid f17
    have F18 := Lib.hid f18
    have F19 := Lib.hid f19
    have F20 := Lib.hid f20
    have HW := Lib.hid hw
    clear hw f0 f1 f2 f3 f4 f5 f6 f7 f8 f9 f10 f11 f12 f13 f14 f15 f16 f17 f18 f19 f20
    go_simp
    refine (G3.out _).mono ?_
    rintro e y ⟨rfl, hb⟩
    go_simp
    refine hK.out _ _ ?_
    exact ⟨_, _, _, _, _, _, _, _, _, _, _, _, _, _, _, _, _, _, _, _, _, rfl, Kn.stay HW.out hb, fun hk => (let ⟨b, e, hB⟩ := (F0.out ((upd_ne (by decide)).symm.trans hk)); ⟨b, e, hB.stay hb⟩), fun hk => (F1.out ((upd_ne (by decide)).symm.trans hk)), fun hk => (F2.out ((upd_ne (by decide)).symm.trans hk)), fun hk => (let ⟨b, e, hB⟩ := (F3.out ((upd_ne (by decide)).symm.trans hk)); ⟨b, e, hB.stay hb⟩), fun hk => (F4.out ((upd_ne (by decide)).symm.trans hk)), fun hk => (F5.out ((upd_ne (by decide)).symm.trans hk)), fun hk => (F6.out ((upd_ne (by decide)).symm.trans hk)), fun hk => (F7.out ((upd_ne (by decide)).symm.trans hk)), fun hk => (F8.out ((upd_ne (by decide)).symm.trans hk)), fun hk => (F9.out ((upd_ne (by decide)).symm.trans hk)), fun hk => (F10.out ((upd_ne (by decide)).symm.trans hk)), fun hk => (F11.out ((upd_ne (by decide)).symm.trans hk)), fun hk => (F12.out ((upd_ne (by decide)).symm.trans hk)), fun hk => (F13.out ((upd_ne (by decide)).symm.trans hk)), fun hk => (F14.out ((upd_ne (by decide)).symm.trans hk)), fun hk => (F15.out ((upd_ne (by decide)).symm.trans hk)), fun hk => (F16.out ((upd_ne (by decide)).symm.trans hk)), fun _ => rfl, fun _ => rfl, fun hk => (F19.out ((upd_ne (by decide)).symm.trans hk)), fun hk => (F20.out ((upd_ne (by decide)).symm.trans hk))⟩
  · rintro L A X ⟨v3, v6, v7, v8, v9, v10, v11, v12, v13, v14, v15, v16, v17, v18, v19, v20, v21, v22, v23, v24, v25, rfl, hw, f0, f1, f2, f3, f4, f5, f6, f7, f8, f9, f10, f11, f12, f13, f14, f15, f16, f17, f18, f19, f20⟩ hL hdep K hK
    simp at hdep
    have d15 : L 15 = true := by first | exact hdep | exact hdep.1 | exact hdep.2 | exact hdep.2.1 | exact hdep.2.2 | exact hdep.2.2.1 | exact hdep.2.2.2
    have d18 : L 18 = true := by first | exact hdep | exact hdep.1 | exact hdep.2 | exact hdep.2.1 | exact hdep.2.2 | exact hdep.2.2.1 | exact hdep.2.2.2
    have e15 := (f15 d15); subst e15
    have e18 := (f18 d18); subst e18
    clear hdep
    have F0 := Lib.hid f0
    have F1 := Lib.hid f1
    have F2 := Lib.hid f2
    have F3 := Lib.hid f3
    have F4 := Lib.hid f4
    have F5 := Lib.hid f5
    have F6 := Lib.hid f6
    have F7 := Lib.hid f7
    have F8 := Lib.hid f8
    have F9 := Lib.hid f9
    have F10 := Lib.hid f10
    have F11 := Lib.hid f11
    have F12 := Lib.hid f12
    have F13 := Lib.hid f13
    have F14 := Lib.hid f14
    have F15 := Lib.hid f15
    have F16 := Lib.hid f16
    have F17 := Lib.hid f17
    have F18 := Lib.hid f18
    have F19 := Lib.hid f19
    have F20 := Lib.hid f20
    have HW := Lib.hid hw
    clear hw f0 f1 f2 f3 f4 f5 f6 f7 f8 f9 f10 f11 f12 f13 f14 f15 f16 f17 f18 f19 f20
    go_simp
    refine hK.out _ _ ?_
    exact ⟨_, _, _, _, _, _, _, _, _, _, _, _, _, _, _, _, _, _, _, _, _, rfl, HW.out, fun hk => (F0.out ((upd_ne (by decide)).symm.trans hk)), fun hk => (F1.out ((upd_ne (by decide)).symm.trans hk)), fun hk => (F2.out ((upd_ne (by decide)).symm.trans hk)), fun hk => (F3.out ((upd_ne (by decide)).symm.trans hk)), fun hk => (F4.out ((upd_ne (by decide)).symm.trans hk)), fun hk => (F5.out ((upd_ne (by decide)).symm.trans hk)), fun hk => (F6.out ((upd_ne (by decide)).symm.trans hk)), fun hk => (F7.out ((upd_ne (by decide)).symm.trans hk)), fun hk => (F8.out ((upd_ne (by decide)).symm.trans hk)), fun hk => (F9.out ((upd_ne (by decide)).symm.trans hk)), fun hk => (F10.out ((upd_ne (by decide)).symm.trans hk)), fun hk => (F11.out ((upd_ne (by decide)).symm.trans hk)), fun hk => (F12.out ((upd_ne (by decide)).symm.trans hk)), fun hk => (F13.out ((upd_ne (by decide)).symm.trans hk)), fun hk => (F14.out ((upd_ne (by decide)).symm.trans hk)), fun _ => rfl, fun hk => (F16.out ((upd_ne (by decide)).symm.trans hk)), fun hk => (F17.out ((upd_ne (by decide)).symm.trans hk)), fun _ => rfl, fun _ => rfl, fun hk => (F20.out ((upd_ne (by decide)).symm.trans hk))⟩
  · rintro L A X ⟨v3, v6, v7, v8, v9, v10, v11, v12, v13, v14, v15, v16, v17, v18, v19, v20, v21, v22, v23, v24, v25, rfl, hw, f0, f1, f2, f3, f4, f5, f6, f7, f8, f9, f10, f11, f12, f13, f14, f15, f16, f17, f18, f19, f20⟩ hL hdep K hK
    simp at hdep
    have d19 : L 19 = true := by first | exact hdep | exact hdep.1 | exact hdep.2 | exact hdep.2.1 | exact hdep.2.2 | exact hdep.2.2.1 | exact hdep.2.2.2 | exact hdep.2.2.2.1 | exact hdep.2.2.2.2
    have e19 := (f19 d19); subst e19
    clear hdep
    have F0 := Lib.hid f0
    have F1 := Lib.hid f1
    have F2 := Lib.hid f2
    have F3 := Lib.hid f3
    have F4 := Lib.hid f4
    have F5 := Lib.hid f5
    have F6 := Lib.hid f6
    have F7 := Lib.hid f7
    have F8 := Lib.hid f8
    have F9 := Lib.hid f9
    have F10 := Lib.hid f10
    have F11 := Lib.hid f11
    have F12 := Lib.hid f12
    have F13 := Lib.hid f13
    have F14 := Lib.hid f14
    have F15 := Lib.hid f15
    have F16 := Lib.hid f16
    have F17 := Lib.hid f17
    have F18 := Lib.hid f18
    have F19 := Lib.hid f19
    have F20 := Lib.hid f20
    have HW := Lib.hid hw
    clear hw f0 f1 f2 f3 f4 f5 f6 f7 f8 f9 f10 f11 f12 f13 f14 f15 f16 f17 f18 f19 f20
    go_simp
    refine hK.out _ _ ?_
    exact ⟨_, _, _, _, _, _, _, _, _, _, _, _, _, _, _, _, _, _, _, _, _, rfl, HW.out, fun hk => (F0.out ((upd_ne (by decide)).symm.trans hk)), fun hk => (F1.out ((upd_ne (by decide)).symm.trans hk)), fun hk => (F2.out ((upd_ne (by decide)).symm.trans hk)), fun hk => (F3.out ((upd_ne (by decide)).symm.trans hk)), fun hk => (F4.out ((upd_ne (by decide)).symm.trans hk)), fun hk => (F5.out ((upd_ne (by decide)).symm.trans hk)), fun hk => (F6.out ((upd_ne (by decide)).symm.trans hk)), fun hk => (F7.out ((upd_ne (by decide)).symm.trans hk)), fun hk => (F8.out ((upd_ne (by decide)).symm.trans hk)), fun hk => (F9.out ((upd_ne (by decide)).symm.trans hk)), fun hk => (F10.out ((upd_ne (by decide)).symm.trans hk)), fun hk => (F11.out ((upd_ne (by decide)).symm.trans hk)), fun hk => (F12.out ((upd_ne (by decide)).symm.trans hk)), fun hk => (F13.out ((upd_ne (by decide)).symm.trans hk)), fun hk => (F14.out ((upd_ne (by decide)).symm.trans hk)), fun hk => (F15.out ((upd_ne (by decide)).symm.trans hk)), fun hk => (F16.out ((upd_ne (by decide)).symm.trans hk)), fun hk => (F17.out ((upd_ne (by decide)).symm.trans hk)), fun hk => (F18.out ((upd_ne (by decide)).symm.trans hk)), fun _ => rfl, fun _ => rfl⟩
  · rintro L A X ⟨v3, v6, v7, v8, v9, v10, v11, v12, v13, v14, v15, v16, v17, v18, v19, v20, v21, v22, v23, v24, v25, rfl, hw, f0, f1, f2, f3, f4, f5, f6, f7, f8, f9, f10, f11, f12, f13, f14, f15, f16, f17, f18, f19, f20⟩ hall
    have e := f20 (hall 20 (by decide))
    subst e
    rw [HE.out]
    have HX1 := Lib.hid (show Kn w [(w.heap.size, 37, x.cs s q)] X from hw)
    have sn := HR.out.len
    have qn := HQ.out.len
    have hs4 := okT_slots HX.out
    obtain ⟨hq3, hqr⟩ := x_okT_queue HX.out
    have HQB := Lib.hid hqr
    obtain ⟨hl, hhl⟩ : ∃ hl, headL x = hl := ⟨_, rfl⟩
    have hz : hl.length ≤ 16 := hhl ▸ head_len x
    have HHL := Lib.hid hhl
    rw [hhl]
    clear f0 f1 f2 f3 f4 f5 f6 f7 f8 f9 f10 f11 f12 f13 f14 f15 f16 f17 f18 f19 f20 hall hw hkd hkd' wk HKN y1 y2 y3 y4 y5 y6 HE G1 G2 G3 HK0 hqr hhl hY
    go_wp2
    go_loopw [3, 4] (fun v i wr => ∃ k : Nat, k ≤ x.slots.length ∧ i = .int .i64 k ∧ v = .string (B (hl ++ slotsL (x.slots.take k))) ∧ Kn w [(w.heap.size, 37, x.cs s q)] wr) (fun _ i _ => x.slots.length - (intOf i).toNat)
    case atStart => exact ⟨0, by omega, rfl, by simp [slotsL], HX1.out⟩
    case round =>
      clear HX1
      obtain ⟨k, hk, rfl, rfl, K2⟩ := hrel
      have c0 := K2.c (b := w.heap.size) (T := 37) (vs := x.cs s q) (by simp) 0 _ rfl
      have c4 := K2.c (b := w.heap.size) (T := 37) (vs := x.cs s q) (by simp) 5 _ rfl
      have c5 := K2.c (b := w.heap.size) (T := 37) (vs := x.cs s q) (by simp) 6 _ rfl
      have HS2 := Lib.hid (HR.out.stay K2.1)
      have HK2 := Lib.hid K2
      clear K2
      by_cases hlt : k < x.slots.length
      · have hlt' : (k : Int) < (x.slots.length : Int) := by omega
        obtain ⟨b, o, ea, hc⟩ := HS2.out.at hlt
        have d0 : wr.cell? ⟨b, o + k * 5, none⟩ = some (.int .i64 (x.slots[k]).t) := hc 0 _ rfl
        have d1 := hc 1 _ rfl
        have d2 := hc 2 _ rfl
        have d3 := hc 3 _ rfl
        have d4 := hc 4 _ rfl
        have OR := Lib.hid (okT_right HX.out hlt)
        have HTK := Lib.hid (slotsL_more x.slots k hlt)
        obtain ⟨r, hr⟩ : ∃ r, x.slots[k] = r := ⟨_, rfl⟩
        rw [hr] at d0 d1 d2 d3 d4 OR HTK
        have zk := slotsL_len (x.slots.take k)
        have zk2 : (x.slots.take k).length = k := by rw [List.length_take]; omega
        obtain ⟨pre, hpre⟩ : ∃ pre, B (hl ++ slotsL (x.slots.take k)) = pre := ⟨_, rfl⟩
        have zp : pre.size ≤ 50 := by rw [← hpre, B_size]; simp only [List.length_append]; omega
        obtain ⟨tr, htr⟩ : ∃ tr, txtR r.t r.v r.r r.w r.k = tr := ⟨_, rfl⟩
        have zt : tr.size ≤ 6 := by rw [← htr, txtR_B]; exact rgt_len r OR.out
        have y1 : ¬ 9223372036854775807 < pre.size + 1 := by omega
        have y2 : ¬ 9223372036854775807 < pre.size + 1 + tr.size := by omega
        have HF := Lib.hid (show pre ++ ⟨#[32]⟩ ++ tr = B (hl ++ slotsL (x.slots.take (k + 1))) by
          rw [← hpre, ← htr, HTK.out, txtR_B, show (⟨#[32]⟩ : ByteArray) = B [32] from rfl]
          simp only [B_app, List.append_assoc, List.cons_append, List.nil_append])
        have HT := Lib.hid htr
        rw [hpre]
        clear hc zk zk2 hpre zp zt htr hr
        go_wp2_with fail
        refine (specRText_val HT.out _).mono ?_
        rintro e y ⟨rfl, hb⟩
        have HK3 := Lib.hid (HK2.out.stay hb)
        clear hb HK2 d0 d1 d2 d3 d4 c0 c4 c5
        go_wp2
        go_roundw
        case rel => exact ⟨k + 1, by omega, by go_num, by rw [← HF.out], HK3.out⟩
        case measure => simp [intOf]; omega
      · have hlt' : ¬ (k : Int) < (x.slots.length : Int) := by omega
        have HJ := Lib.hid (show x.slots.take k = x.slots from List.take_of_length_le (by omega))
        rw [HJ.out]
        obtain ⟨h2, hh2⟩ : ∃ h2, hl ++ slotsL x.slots = h2 := ⟨_, rfl⟩
        have hz2 : h2.length ≤ 60 := by rw [← hh2, List.length_append]; have := slotsL_len x.slots; omega
        have HH2 := Lib.hid hh2
        rw [hh2]
        have HX2 := HK2
        clear hh2 HJ HS2 HK2 hlt hk hz
        go_wp2
        clear hlt'
        go_loopw [3, 5] (fun v i wr => ∃ j : Nat, j ≤ x.queue.length ∧ i = .int .i64 j ∧ v = .string (B (h2 ++ queueL (x.queue.take j))) ∧ Kn w [(w.heap.size, 37, x.cs s q)] wr) (fun _ i _ => x.queue.length - (intOf i).toNat)
        case atStart => exact ⟨0, by omega, rfl, by simp [queueL], HX2.out⟩
        case round =>
          clear HX2 c0 c4 c5
          obtain ⟨j, hj, rfl, rfl, K2⟩ := hrel
          have c0 := K2.c (b := w.heap.size) (T := 37) (vs := x.cs s q) (by simp) 0 _ rfl
          have c5 := K2.c (b := w.heap.size) (T := 37) (vs := x.cs s q) (by simp) 6 _ rfl
          have c6 := K2.c (b := w.heap.size) (T := 37) (vs := x.cs s q) (by simp) 7 _ rfl
          have HQ2 := Lib.hid (HQ.out.stay K2.1)
          have HK2 := Lib.hid K2
          clear K2
          by_cases hlt : j < x.queue.length
          · have hlt' : (j : Int) < (x.queue.length : Int) := by omega
            obtain ⟨b, o, ea, d0⟩ := HQ2.out.at hlt
            have OR := Lib.hid (HQB.out (x.queue[j]) (List.getElem_mem hlt))
            have HTK := Lib.hid (queueL_more x.queue j hlt)
            obtain ⟨r, hr⟩ : ∃ r, x.queue[j] = r := ⟨_, rfl⟩
            rw [hr] at d0 OR HTK
            have zk := queueL_len (x.queue.take j)
            have zk2 : (x.queue.take j).length = j := by rw [List.length_take]; omega
            obtain ⟨pre, hpre⟩ : ∃ pre, B (h2 ++ queueL (x.queue.take j)) = pre := ⟨_, rfl⟩
            have zp : pre.size ≤ 90 := by rw [← hpre, B_size]; simp only [List.length_append]; omega
            obtain ⟨tr, htr⟩ : ∃ tr, B (decL r) = tr := ⟨_, rfl⟩
            have zt : tr.size ≤ 2 := by rw [← htr]; exact dec_len r
            have y1 : ¬ 9223372036854775807 < pre.size + 2 := by omega
            have y2 : ¬ 9223372036854775807 < pre.size + 2 + tr.size := by omega
            have HF := Lib.hid (show pre ++ ⟨#[32, 60]⟩ ++ tr = B (h2 ++ queueL (x.queue.take (j + 1))) by
              rw [← hpre, ← htr, HTK.out, show (⟨#[32, 60]⟩ : ByteArray) = B [32, 60] from rfl]
              simp only [B_app, List.append_assoc, List.cons_append, List.nil_append])
            have HT := Lib.hid (show ∀ y, Calls Tryd.prog 85 #[.int .i64 r] y fun e w' => e = .returned (.string tr) ∧ Below y.heap.size y w' from fun y => htr ▸ l6Dec_all r y (by have := OR.out; omega))
            rw [hpre]
            clear zk zk2 hpre zp zt htr hr
            go_wp2_with fail
            refine (HT.out _).mono ?_
            rintro e y ⟨rfl, hb⟩
            have HK3 := Lib.hid (HK2.out.stay hb)
            clear hb HK2 d0 c0 c5 c6
            go_wp2
            go_roundw
            case rel => exact ⟨j + 1, by omega, by go_num, by rw [← HF.out], HK3.out⟩
            case measure => simp [intOf]; omega
          · have hlt' : ¬ (j : Int) < (x.queue.length : Int) := by omega
            have HJ := Lib.hid (show x.queue.take j = x.queue from List.take_of_length_le (by omega))
            rw [HJ.out]
            obtain ⟨pre, hpre⟩ : ∃ pre, B (h2 ++ queueL x.queue) = pre := ⟨_, rfl⟩
            have zp : pre.size ≤ 90 := by rw [← hpre, B_size, List.length_append]; have := queueL_len x.queue; omega
            by_cases h5 : x.kind = 5
            · have TO := Lib.hid (okT_to HX.out h5)
              have c0' : wr.cell? ⟨w.heap.size, 0, none⟩ = some (.int .i64 5) := by rw [← h5]; exact c0
              obtain ⟨tr, htr⟩ : ∃ tr, B (decL x.to) = tr := ⟨_, rfl⟩
              have zt : tr.size ≤ 2 := by rw [← htr]; exact dec_len _
              have y1 : ¬ 9223372036854775807 < pre.size + 2 := by omega
              have y2 : ¬ 9223372036854775807 < pre.size + 2 + tr.size := by omega
              have y3 : ¬ 9223372036854775807 < pre.size + 2 + tr.size + 1 := by omega
              have HF := Lib.hid (show pre ++ ⟨#[32, 62]⟩ ++ tr ++ ⟨#[10]⟩ = B (thingL x) by
                rw [← hpre, ← htr, ← HH2.out, ← HHL.out, show (⟨#[32, 62]⟩ : ByteArray) = B [32, 62] from rfl, show (⟨#[10]⟩ : ByteArray) = B [10] from rfl]
                rw [thingL_head, if_pos h5]
                simp only [B_app, List.append_assoc, List.cons_append, List.nil_append])
              have HT := Lib.hid (show ∀ y, Calls Tryd.prog 85 #[.int .i64 x.to] y fun e w' => e = .returned (.string tr) ∧ Below y.heap.size y w' from fun y => htr ▸ l6Dec_all x.to y (by have := TO.out; omega))
              rw [hpre]
              clear hpre zp zt htr c0 h5 hlt HJ hj
              go_wp2_with fail
              refine (HT.out _).mono ?_
              rintro e y ⟨rfl, hb⟩
              have HK3 := Lib.hid (HK2.out.stay hb)
              clear hb HK2 c0' c5 c6
              go_wp2
              go_ret
              exact ⟨by rw [← HF.out]; rfl, HK3.out.1⟩
            · have h5' : (x.kind == 5) = false := by simpa using h5
              have y1 : ¬ 9223372036854775807 < pre.size + 1 := by omega
              have HF := Lib.hid (show pre ++ ⟨#[10]⟩ = B (thingL x) by
                rw [← hpre, ← HH2.out, ← HHL.out, show (⟨#[10]⟩ : ByteArray) = B [10] from rfl]
                rw [thingL_head, if_neg h5]
                simp only [B_app, List.append_assoc, List.nil_append])
              rw [hpre]
              clear hpre zp hlt HJ hj h5
              go_wp2
              go_ret
              exact ⟨by rw [← HF.out]; rfl, HK2.out.1⟩
end Go.Proofs.YtpahahonopiblaaDoor
