/-
  The walk of laws.FnExactLabelMeet.
-/
import Derived.Test.YtiooefcdlemodabWExOk
import Derived.Test.YtiooefcdlemodabLabE
import Derived.Test.YtiooefcdlemodabWld
namespace Go.Proofs.Ytiooefcdlemodab
open Go.RowKit
set_option linter.unusedVariables false

theorem two_of {cs : Array Value} (h : cs.size = 2) : ∃ c0 c1, cs = #[c0, c1] := by
  obtain ⟨l⟩ := cs
  match l, h with
  | [c0, c1], _ => exact ⟨c0, c1, rfl⟩
def IXMeet1 (s v s2 v2 ja jb : Int) (w : World) (L : Nat → Bool) (A : Act) (x : World) : Prop := ∃ v5 v7 v8 v9 v10 v11 : Value, A = { tmps := #[lab s v, lab s2 v2, .pointer (some ⟨w.heap.size, 0, none⟩), .pointer (some ⟨w.heap.size + 1, 0, none⟩), .bool false, v5, undef, v7, v8, v9, v10, v11, undef, undef, undef, undef, undef, undef, undef, undef, undef], defers := [] } ∧ Kn w [(w.heap.size, 23, #[.int .i64 s, .int .i64 v]), (w.heap.size + 1, 23, #[.int .i64 s2, .int .i64 v2])] x ∧ (L 0 = true → v7 = lab s v) ∧ (L 1 = true → v8 = lab s v) ∧ (L 2 = true → v9 = lab s2 v2) ∧ (L 3 = true → v10 = lab s2 v2) ∧ (L 4 = true → v11 = lab ja jb) ∧ (L 5 = true → ∃ b : Nat, ∃ cs : Array Value, v5 = .pointer (some ⟨b, 0, none⟩) ∧ cs.size = 2 ∧ w.heap.size + 2 ≤ b ∧ Box x b 25 cs) ∧ (L 6 = true → ∃ b : Nat, v5 = .pointer (some ⟨b, 0, none⟩) ∧ w.heap.size + 2 ≤ b ∧ Box x b 25 #[.int .i64 ja, .int .i64 jb]) ∧ (L 6 = true → L 5 = true)
def IXMeet2 (s v s2 v2 ja jb : Int) (c5 : Nat) (w : World) (L : Nat → Bool) (A : Act) (x : World) : Prop := ∃ v6 v12 v13 v14 v15 v16 : Value, A = { tmps := #[lab s v, lab s2 v2, .pointer (some ⟨w.heap.size, 0, none⟩), .pointer (some ⟨w.heap.size + 1, 0, none⟩), .bool false, .pointer (some ⟨c5, 0, none⟩), v6, lab s v, lab s v, lab s2 v2, lab s2 v2, lab ja jb, v12, v13, v14, v15, v16, undef, undef, undef, undef], defers := [] } ∧ Kn w [(w.heap.size, 23, #[.int .i64 s, .int .i64 v]), (w.heap.size + 1, 23, #[.int .i64 s2, .int .i64 v2]), (c5, 25, #[.int .i64 ja, .int .i64 jb])] x ∧ (L 0 = true → v12 = lab s v) ∧ (L 1 = true → v13 = lab s v) ∧ (L 2 = true → v14 = lab s2 v2) ∧ (L 3 = true → v15 = lab s2 v2) ∧ (L 4 = true → v16 = lab ja jb) ∧ (L 5 = true → ∃ b : Nat, ∃ cs : Array Value, v6 = .pointer (some ⟨b, 0, none⟩) ∧ cs.size = 2 ∧ c5 + 1 ≤ b ∧ Box x b 25 cs) ∧ (L 6 = true → ∃ b : Nat, v6 = .pointer (some ⟨b, 0, none⟩) ∧ c5 + 1 ≤ b ∧ Box x b 25 #[.int .i64 ja, .int .i64 jb]) ∧ (L 6 = true → L 5 = true)

set_option maxHeartbeats 400000 in
theorem eqLabel_same (s v : Int) (w : World) :
    Calls Try.prog 11 #[lab s v, lab s v] w fun e w' => e = .returned (.bool true) ∧ Below w.heap.size w w' := by
  go_enter Try.func11, Try.ntmps11
  go_wp2
  go_ret
  exact ⟨rfl, ((Below.refl _ _).alloc (Nat.le_refl _) _).alloc (by simp) _⟩

set_option maxHeartbeats 2000000 in
theorem walk_FnExactLabelMeet (s v s2 v2 : Int) (w : World) :
    Calls Try.prog 5 #[lab s v, lab s2 v2] w fun e w' => e = .returned (.bool true) ∧ Below w.heap.size w w' := by
  obtain ⟨ja, hja⟩ : ∃ a, mt1 s v s2 v2 = a := ⟨_, rfl⟩
  obtain ⟨jb, hjb⟩ : ∃ a, mt2 s v s2 v2 = a := ⟨_, rfl⟩
  have CS := Lib.hid (fun w' => hja ▸ hjb ▸ specMeet_any s v s2 v2 w')
  have CI := Lib.hid (fun w' => hja ▸ hjb ▸ implMeet_any s v s2 v2 w')
  clear hja hjb
  have K0 : Kn w [(w.heap.size, 23, #[.int .i64 s, .int .i64 v]), (w.heap.size + 1, 23, #[.int .i64 s2, .int .i64 v2])] ((w.alloc (.cells #[.int .i64 s, .int .i64 v] 23)).alloc (.cells #[.int .i64 s2, .int .i64 v2] 23)) := by
    have h := ((Kn.refl (w := w)).new 23 #[.int .i64 s, .int .i64 v]).new 23 #[.int .i64 s2, .int .i64 v2]
    rw [show (w.alloc (.cells #[.int .i64 s, .int .i64 v] 23)).heap.size = w.heap.size + 1 by simp] at h
    exact h.less (by simp)
  have HK0 := Lib.hid K0
  clear K0
  go_enter Try.func5, Try.ntmps5
  go_wp2_with fail
  refine wp_region_steps (by kernel_rfl) (by kernel_rfl) (by kernel_rfl) (IXMeet1 s v s2 v2 ja jb w) ?_ ⟨?_, ?_, ?_, ?_, ?_, ?_, ?_, trivial⟩ ?_
  · exact ⟨_, _, _, _, _, _, rfl, HK0.out.drew, fun h => absurd h (by decide), fun h => absurd h (by decide), fun h => absurd h (by decide), fun h => absurd h (by decide), fun h => absurd h (by decide), fun h => absurd h (by decide), fun h => absurd h (by decide), fun h => absurd h (by decide)⟩
  · rintro L A x ⟨v5, v7, v8, v9, v10, v11, rfl, hK, f0, f1, f2, f3, f4, f5, f6, fs⟩ hL hdep K hk0
    clear hdep
    have q0 := hK.c (b := w.heap.size) (T := 23) (vs := #[.int .i64 s, .int .i64 v]) (by simp) 0 _ rfl
    have q1 := hK.c (b := w.heap.size) (T := 23) (vs := #[.int .i64 s, .int .i64 v]) (by simp) 1 _ rfl
    have F0 := Lib.hid f0
    have F1 := Lib.hid f1
    have F2 := Lib.hid f2
    have F3 := Lib.hid f3
    have F4 := Lib.hid f4
    have F5 := Lib.hid f5
    have F6 := Lib.hid f6
    have FS := Lib.hid fs
    have HK := Lib.hid hK
    have HL := Lib.hid hL
    clear hK fs hL f0 f1 f2 f3 f4 f5 f6
    go_simp
    refine hk0.out _ _ ?_
    exact ⟨_, _, _, _, _, _, rfl, HK.out, fun _ => rfl, fun hk => F1.out ((upd_ne (by decide)).symm.trans hk), fun hk => F2.out ((upd_ne (by decide)).symm.trans hk), fun hk => F3.out ((upd_ne (by decide)).symm.trans hk), fun hk => F4.out ((upd_ne (by decide)).symm.trans hk), fun hk => F5.out ((upd_ne (by decide)).symm.trans hk), fun hk => F6.out ((upd_ne (by decide)).symm.trans hk), FS.out⟩
  · rintro L A x ⟨v5, v7, v8, v9, v10, v11, rfl, hK, f0, f1, f2, f3, f4, f5, f6, fs⟩ hL hdep K hk0
    simp at hdep
    have e0 := f0 hdep
    subst e0
    have F0 := Lib.hid f0
    have F1 := Lib.hid f1
    have F2 := Lib.hid f2
    have F3 := Lib.hid f3
    have F4 := Lib.hid f4
    have F5 := Lib.hid f5
    have F6 := Lib.hid f6
    have FS := Lib.hid fs
    have HK := Lib.hid hK
    have HL := Lib.hid hL
    clear hK fs hL f0 f1 f2 f3 f4 f5 f6
    go_simp
    refine (toLabel_any s v _).mono ?_
    rintro e y ⟨rfl, hb⟩
    go_simp
    refine hk0.out _ _ ?_
    exact ⟨_, _, _, _, _, _, rfl, HK.out.stay hb, fun hk => F0.out ((upd_ne (by decide)).symm.trans hk), fun _ => rfl, fun hk => F2.out ((upd_ne (by decide)).symm.trans hk), fun hk => F3.out ((upd_ne (by decide)).symm.trans hk), fun hk => F4.out ((upd_ne (by decide)).symm.trans hk), fun hk => (by obtain ⟨b, cs, e, hn, hlo, hB⟩ := F5.out ((upd_ne (by decide)).symm.trans hk); exact ⟨b, cs, e, hn, hlo, hB.stay hb⟩), fun hk => (by obtain ⟨b, e, hlo, hB⟩ := F6.out ((upd_ne (by decide)).symm.trans hk); exact ⟨b, e, hlo, hB.stay hb⟩), FS.out⟩
  · rintro L A x ⟨v5, v7, v8, v9, v10, v11, rfl, hK, f0, f1, f2, f3, f4, f5, f6, fs⟩ hL hdep K hk0
    clear hdep
    have q0 := hK.c (b := w.heap.size + 1) (T := 23) (vs := #[.int .i64 s2, .int .i64 v2]) (by simp) 0 _ rfl
    have q1 := hK.c (b := w.heap.size + 1) (T := 23) (vs := #[.int .i64 s2, .int .i64 v2]) (by simp) 1 _ rfl
    have F0 := Lib.hid f0
    have F1 := Lib.hid f1
    have F2 := Lib.hid f2
    have F3 := Lib.hid f3
    have F4 := Lib.hid f4
    have F5 := Lib.hid f5
    have F6 := Lib.hid f6
    have FS := Lib.hid fs
    have HK := Lib.hid hK
    have HL := Lib.hid hL
    clear hK fs hL f0 f1 f2 f3 f4 f5 f6
    go_simp
    refine hk0.out _ _ ?_
    exact ⟨_, _, _, _, _, _, rfl, HK.out, fun hk => F0.out ((upd_ne (by decide)).symm.trans hk), fun hk => F1.out ((upd_ne (by decide)).symm.trans hk), fun _ => rfl, fun hk => F3.out ((upd_ne (by decide)).symm.trans hk), fun hk => F4.out ((upd_ne (by decide)).symm.trans hk), fun hk => F5.out ((upd_ne (by decide)).symm.trans hk), fun hk => F6.out ((upd_ne (by decide)).symm.trans hk), FS.out⟩
  · rintro L A x ⟨v5, v7, v8, v9, v10, v11, rfl, hK, f0, f1, f2, f3, f4, f5, f6, fs⟩ hL hdep K hk0
    simp at hdep
    have e2 := f2 hdep.1
    subst e2
    have F0 := Lib.hid f0
    have F1 := Lib.hid f1
    have F2 := Lib.hid f2
    have F3 := Lib.hid f3
    have F4 := Lib.hid f4
    have F5 := Lib.hid f5
    have F6 := Lib.hid f6
    have FS := Lib.hid fs
    have HK := Lib.hid hK
    have HL := Lib.hid hL
    clear hK fs hL f0 f1 f2 f3 f4 f5 f6
    go_simp
    refine (toLabel_any s2 v2 _).mono ?_
    rintro e y ⟨rfl, hb⟩
    go_simp
    refine hk0.out _ _ ?_
    exact ⟨_, _, _, _, _, _, rfl, HK.out.stay hb, fun hk => F0.out ((upd_ne (by decide)).symm.trans hk), fun hk => F1.out ((upd_ne (by decide)).symm.trans hk), fun hk => F2.out ((upd_ne (by decide)).symm.trans hk), fun _ => rfl, fun hk => F4.out ((upd_ne (by decide)).symm.trans hk), fun hk => (by obtain ⟨b, cs, e, hn, hlo, hB⟩ := F5.out ((upd_ne (by decide)).symm.trans hk); exact ⟨b, cs, e, hn, hlo, hB.stay hb⟩), fun hk => (by obtain ⟨b, e, hlo, hB⟩ := F6.out ((upd_ne (by decide)).symm.trans hk); exact ⟨b, e, hlo, hB.stay hb⟩), FS.out⟩
  · rintro L A x ⟨v5, v7, v8, v9, v10, v11, rfl, hK, f0, f1, f2, f3, f4, f5, f6, fs⟩ hL hdep K hk0
    simp at hdep
    have e1 := f1 hdep.1
    subst e1
    have e3 := f3 hdep.2
    subst e3
    have F0 := Lib.hid f0
    have F1 := Lib.hid f1
    have F2 := Lib.hid f2
    have F3 := Lib.hid f3
    have F4 := Lib.hid f4
    have F5 := Lib.hid f5
    have F6 := Lib.hid f6
    have FS := Lib.hid fs
    have HK := Lib.hid hK
    have HL := Lib.hid hL
    clear hK fs hL f0 f1 f2 f3 f4 f5 f6
    go_simp
    refine (CS.out _).mono ?_
    rintro e y ⟨rfl, hb⟩
    go_simp
    refine hk0.out _ _ ?_
    exact ⟨_, _, _, _, _, _, rfl, HK.out.stay hb, fun hk => F0.out ((upd_ne (by decide)).symm.trans hk), fun hk => F1.out ((upd_ne (by decide)).symm.trans hk), fun hk => F2.out ((upd_ne (by decide)).symm.trans hk), fun hk => F3.out ((upd_ne (by decide)).symm.trans hk), fun _ => rfl, fun hk => (by obtain ⟨b, cs, e, hn, hlo, hB⟩ := F5.out ((upd_ne (by decide)).symm.trans hk); exact ⟨b, cs, e, hn, hlo, hB.stay hb⟩), fun hk => (by obtain ⟨b, e, hlo, hB⟩ := F6.out ((upd_ne (by decide)).symm.trans hk); exact ⟨b, e, hlo, hB.stay hb⟩), FS.out⟩
  · rintro L A x ⟨v5, v7, v8, v9, v10, v11, rfl, hK, f0, f1, f2, f3, f4, f5, f6, fs⟩ hL hdep K hk0
    clear hdep
    have F0 := Lib.hid f0
    have F1 := Lib.hid f1
    have F2 := Lib.hid f2
    have F3 := Lib.hid f3
    have F4 := Lib.hid f4
    have F5 := Lib.hid f5
    have F6 := Lib.hid f6
    have FS := Lib.hid fs
    have HK := Lib.hid hK
    have HL := Lib.hid hL
    clear hK fs hL f0 f1 f2 f3 f4 f5 f6
    go_simp
    refine hk0.out _ _ ?_
    have hsz := HK.out.1.size
    exact ⟨_, _, _, _, _, _, rfl, HK.out.past _, fun hk => F0.out ((upd_ne (by decide)).symm.trans hk), fun hk => F1.out ((upd_ne (by decide)).symm.trans hk), fun hk => F2.out ((upd_ne (by decide)).symm.trans hk), fun hk => F3.out ((upd_ne (by decide)).symm.trans hk), fun hk => F4.out ((upd_ne (by decide)).symm.trans hk), fun _ => ⟨_, _, rfl, rfl, by have h := HK.out.box (b := w.heap.size + 1) (T := 23) (vs := #[.int .i64 s2, .int .i64 v2]) (by simp) |>.lt; omega, Box.fresh _ _ _⟩, fun hk => absurd (HL.out.symm.trans (FS.out ((upd_ne (by decide)).symm.trans hk))) (by decide), fun _ => upd_self L 5⟩
  · rintro L A x ⟨v5, v7, v8, v9, v10, v11, rfl, hK, f0, f1, f2, f3, f4, f5, f6, fs⟩ hL hdep K hk0
    simp at hdep
    have e5 := f5 hdep.1
    have e4 := f4 hdep.2.1
    subst e4
    obtain ⟨b, cs, rfl, hn, hlo, hB⟩ := e5
    obtain ⟨c0, c1, rfl⟩ : ∃ c0 c1, cs = #[c0, c1] := two_of hn
    have q0 := hB.cell 0 _ rfl
    have r0 := hB.thaw 0
    have q1 := hB.cell 1 _ rfl
    have r1 := hB.thaw 1
    have HD := Lib.hid hdep.1
    have F0 := Lib.hid f0
    have F1 := Lib.hid f1
    have F2 := Lib.hid f2
    have F3 := Lib.hid f3
    have F4 := Lib.hid f4
    have F5 := Lib.hid f5
    have F6 := Lib.hid f6
    have FS := Lib.hid fs
    have HK := Lib.hid hK
    have HL := Lib.hid hL
    clear hK fs hL f0 f1 f2 f3 f4 f5 f6
    go_simp
    refine hk0.out _ _ ?_
    exact ⟨_, _, _, _, _, _, rfl, ((HK.out.put (p := ⟨b, 0, none⟩) (by show w.heap.size ≤ b; omega) (by intro t ht; simp at ht; rcases ht with rfl | rfl <;> (dsimp only; omega)) _).put (p := ⟨b, 1, none⟩) (by show w.heap.size ≤ b; omega) (by intro t ht; simp at ht; rcases ht with rfl | rfl <;> (dsimp only; omega)) _), fun hk => F0.out ((upd_ne (by decide)).symm.trans hk), fun hk => F1.out ((upd_ne (by decide)).symm.trans hk), fun hk => F2.out ((upd_ne (by decide)).symm.trans hk), fun hk => F3.out ((upd_ne (by decide)).symm.trans hk), fun hk => F4.out ((upd_ne (by decide)).symm.trans hk), fun _ => ⟨b, _, rfl, rfl, hlo, ((hB.put 0 (.int .i64 ja)).put 1 (.int .i64 jb))⟩, fun _ => ⟨b, rfl, hlo, ((hB.put 0 (.int .i64 ja)).put 1 (.int .i64 jb))⟩, fun _ => HD.out⟩
  · rintro L A x ⟨v5, v7, v8, v9, v10, v11, rfl, hK, f0, f1, f2, f3, f4, f5, f6, fs⟩ hall
    have e0 := f0 (hall 0 (by decide))
    subst e0
    have e1 := f1 (hall 1 (by decide))
    subst e1
    have e2 := f2 (hall 2 (by decide))
    subst e2
    have e3 := f3 (hall 3 (by decide))
    subst e3
    have e4 := f4 (hall 4 (by decide))
    subst e4
    obtain ⟨b, rfl, hlo, hB⟩ := f6 (hall 6 (by decide))
    clear f5 f6 fs hall f0 f1 f2 f3 f4
    have K1 : Kn w [(w.heap.size, 23, #[.int .i64 s, .int .i64 v]), (w.heap.size + 1, 23, #[.int .i64 s2, .int .i64 v2]), (b, 25, #[.int .i64 ja, .int .i64 jb])] x := ⟨hK.1, fun t ht => by
      simp at ht
      rcases ht with rfl | rfl | rfl
      · exact hK.2 _ (by simp)
      · exact hK.2 _ (by simp)
      · exact hB⟩
    have HK1 := Lib.hid K1
    clear K1 hK hB HK0
    go_wp2_with fail
    obtain ⟨b5, rfl⟩ : ∃ n, n = b := ⟨_, rfl⟩
    refine wp_region_steps (by kernel_rfl) (by kernel_rfl) (by kernel_rfl) (IXMeet2 s v s2 v2 ja jb b5 w) ?_ ⟨?_, ?_, ?_, ?_, ?_, ?_, ?_, trivial⟩ ?_
    · exact ⟨_, _, _, _, _, _, rfl, HK1.out.drew, fun h => absurd h (by decide), fun h => absurd h (by decide), fun h => absurd h (by decide), fun h => absurd h (by decide), fun h => absurd h (by decide), fun h => absurd h (by decide), fun h => absurd h (by decide), fun h => absurd h (by decide)⟩
    · rintro L A x ⟨v6, v12, v13, v14, v15, v16, rfl, hK, f0, f1, f2, f3, f4, f5, f6, fs⟩ hL hdep K hk0
      clear hdep
      have q0 := hK.c (b := w.heap.size) (T := 23) (vs := #[.int .i64 s, .int .i64 v]) (by simp) 0 _ rfl
      have q1 := hK.c (b := w.heap.size) (T := 23) (vs := #[.int .i64 s, .int .i64 v]) (by simp) 1 _ rfl
      have F0 := Lib.hid f0
      have F1 := Lib.hid f1
      have F2 := Lib.hid f2
      have F3 := Lib.hid f3
      have F4 := Lib.hid f4
      have F5 := Lib.hid f5
      have F6 := Lib.hid f6
      have FS := Lib.hid fs
      have HK := Lib.hid hK
      have HL := Lib.hid hL
      clear hK fs hL f0 f1 f2 f3 f4 f5 f6
      go_simp
      refine hk0.out _ _ ?_
      exact ⟨_, _, _, _, _, _, rfl, HK.out, fun _ => rfl, fun hk => F1.out ((upd_ne (by decide)).symm.trans hk), fun hk => F2.out ((upd_ne (by decide)).symm.trans hk), fun hk => F3.out ((upd_ne (by decide)).symm.trans hk), fun hk => F4.out ((upd_ne (by decide)).symm.trans hk), fun hk => F5.out ((upd_ne (by decide)).symm.trans hk), fun hk => F6.out ((upd_ne (by decide)).symm.trans hk), FS.out⟩
    · rintro L A x ⟨v6, v12, v13, v14, v15, v16, rfl, hK, f0, f1, f2, f3, f4, f5, f6, fs⟩ hL hdep K hk0
      simp at hdep
      have e0 := f0 hdep
      subst e0
      have F0 := Lib.hid f0
      have F1 := Lib.hid f1
      have F2 := Lib.hid f2
      have F3 := Lib.hid f3
      have F4 := Lib.hid f4
      have F5 := Lib.hid f5
      have F6 := Lib.hid f6
      have FS := Lib.hid fs
      have HK := Lib.hid hK
      have HL := Lib.hid hL
      clear hK fs hL f0 f1 f2 f3 f4 f5 f6
      go_simp
      refine (toLabel_any s v _).mono ?_
      rintro e y ⟨rfl, hb⟩
      go_simp
      refine hk0.out _ _ ?_
      exact ⟨_, _, _, _, _, _, rfl, HK.out.stay hb, fun hk => F0.out ((upd_ne (by decide)).symm.trans hk), fun _ => rfl, fun hk => F2.out ((upd_ne (by decide)).symm.trans hk), fun hk => F3.out ((upd_ne (by decide)).symm.trans hk), fun hk => F4.out ((upd_ne (by decide)).symm.trans hk), fun hk => (by obtain ⟨b, cs, e, hn, hlo, hB⟩ := F5.out ((upd_ne (by decide)).symm.trans hk); exact ⟨b, cs, e, hn, hlo, hB.stay hb⟩), fun hk => (by obtain ⟨b, e, hlo, hB⟩ := F6.out ((upd_ne (by decide)).symm.trans hk); exact ⟨b, e, hlo, hB.stay hb⟩), FS.out⟩
    · rintro L A x ⟨v6, v12, v13, v14, v15, v16, rfl, hK, f0, f1, f2, f3, f4, f5, f6, fs⟩ hL hdep K hk0
      clear hdep
      have q0 := hK.c (b := w.heap.size + 1) (T := 23) (vs := #[.int .i64 s2, .int .i64 v2]) (by simp) 0 _ rfl
      have q1 := hK.c (b := w.heap.size + 1) (T := 23) (vs := #[.int .i64 s2, .int .i64 v2]) (by simp) 1 _ rfl
      have F0 := Lib.hid f0
      have F1 := Lib.hid f1
      have F2 := Lib.hid f2
      have F3 := Lib.hid f3
      have F4 := Lib.hid f4
      have F5 := Lib.hid f5
      have F6 := Lib.hid f6
      have FS := Lib.hid fs
      have HK := Lib.hid hK
      have HL := Lib.hid hL
      clear hK fs hL f0 f1 f2 f3 f4 f5 f6
      go_simp
      refine hk0.out _ _ ?_
      exact ⟨_, _, _, _, _, _, rfl, HK.out, fun hk => F0.out ((upd_ne (by decide)).symm.trans hk), fun hk => F1.out ((upd_ne (by decide)).symm.trans hk), fun _ => rfl, fun hk => F3.out ((upd_ne (by decide)).symm.trans hk), fun hk => F4.out ((upd_ne (by decide)).symm.trans hk), fun hk => F5.out ((upd_ne (by decide)).symm.trans hk), fun hk => F6.out ((upd_ne (by decide)).symm.trans hk), FS.out⟩
    · rintro L A x ⟨v6, v12, v13, v14, v15, v16, rfl, hK, f0, f1, f2, f3, f4, f5, f6, fs⟩ hL hdep K hk0
      simp at hdep
      have e2 := f2 hdep.1
      subst e2
      have F0 := Lib.hid f0
      have F1 := Lib.hid f1
      have F2 := Lib.hid f2
      have F3 := Lib.hid f3
      have F4 := Lib.hid f4
      have F5 := Lib.hid f5
      have F6 := Lib.hid f6
      have FS := Lib.hid fs
      have HK := Lib.hid hK
      have HL := Lib.hid hL
      clear hK fs hL f0 f1 f2 f3 f4 f5 f6
      go_simp
      refine (toLabel_any s2 v2 _).mono ?_
      rintro e y ⟨rfl, hb⟩
      go_simp
      refine hk0.out _ _ ?_
      exact ⟨_, _, _, _, _, _, rfl, HK.out.stay hb, fun hk => F0.out ((upd_ne (by decide)).symm.trans hk), fun hk => F1.out ((upd_ne (by decide)).symm.trans hk), fun hk => F2.out ((upd_ne (by decide)).symm.trans hk), fun _ => rfl, fun hk => F4.out ((upd_ne (by decide)).symm.trans hk), fun hk => (by obtain ⟨b, cs, e, hn, hlo, hB⟩ := F5.out ((upd_ne (by decide)).symm.trans hk); exact ⟨b, cs, e, hn, hlo, hB.stay hb⟩), fun hk => (by obtain ⟨b, e, hlo, hB⟩ := F6.out ((upd_ne (by decide)).symm.trans hk); exact ⟨b, e, hlo, hB.stay hb⟩), FS.out⟩
    · rintro L A x ⟨v6, v12, v13, v14, v15, v16, rfl, hK, f0, f1, f2, f3, f4, f5, f6, fs⟩ hL hdep K hk0
      simp at hdep
      have e1 := f1 hdep.1
      subst e1
      have e3 := f3 hdep.2
      subst e3
      have F0 := Lib.hid f0
      have F1 := Lib.hid f1
      have F2 := Lib.hid f2
      have F3 := Lib.hid f3
      have F4 := Lib.hid f4
      have F5 := Lib.hid f5
      have F6 := Lib.hid f6
      have FS := Lib.hid fs
      have HK := Lib.hid hK
      have HL := Lib.hid hL
      clear hK fs hL f0 f1 f2 f3 f4 f5 f6
      go_simp
      refine (CI.out _).mono ?_
      rintro e y ⟨rfl, hb⟩
      go_simp
      refine hk0.out _ _ ?_
      exact ⟨_, _, _, _, _, _, rfl, HK.out.stay hb, fun hk => F0.out ((upd_ne (by decide)).symm.trans hk), fun hk => F1.out ((upd_ne (by decide)).symm.trans hk), fun hk => F2.out ((upd_ne (by decide)).symm.trans hk), fun hk => F3.out ((upd_ne (by decide)).symm.trans hk), fun _ => rfl, fun hk => (by obtain ⟨b, cs, e, hn, hlo, hB⟩ := F5.out ((upd_ne (by decide)).symm.trans hk); exact ⟨b, cs, e, hn, hlo, hB.stay hb⟩), fun hk => (by obtain ⟨b, e, hlo, hB⟩ := F6.out ((upd_ne (by decide)).symm.trans hk); exact ⟨b, e, hlo, hB.stay hb⟩), FS.out⟩
    · rintro L A x ⟨v6, v12, v13, v14, v15, v16, rfl, hK, f0, f1, f2, f3, f4, f5, f6, fs⟩ hL hdep K hk0
      clear hdep
      have F0 := Lib.hid f0
      have F1 := Lib.hid f1
      have F2 := Lib.hid f2
      have F3 := Lib.hid f3
      have F4 := Lib.hid f4
      have F5 := Lib.hid f5
      have F6 := Lib.hid f6
      have FS := Lib.hid fs
      have HK := Lib.hid hK
      have HL := Lib.hid hL
      clear hK fs hL f0 f1 f2 f3 f4 f5 f6
      go_simp
      refine hk0.out _ _ ?_
      have hsz := HK.out.1.size
      exact ⟨_, _, _, _, _, _, rfl, HK.out.past _, fun hk => F0.out ((upd_ne (by decide)).symm.trans hk), fun hk => F1.out ((upd_ne (by decide)).symm.trans hk), fun hk => F2.out ((upd_ne (by decide)).symm.trans hk), fun hk => F3.out ((upd_ne (by decide)).symm.trans hk), fun hk => F4.out ((upd_ne (by decide)).symm.trans hk), fun _ => ⟨_, _, rfl, rfl, by have h := HK.out.box (b := b5) (T := 25) (vs := #[.int .i64 ja, .int .i64 jb]) (by simp) |>.lt; omega, Box.fresh _ _ _⟩, fun hk => absurd (HL.out.symm.trans (FS.out ((upd_ne (by decide)).symm.trans hk))) (by decide), fun _ => upd_self L 5⟩
    · rintro L A x ⟨v6, v12, v13, v14, v15, v16, rfl, hK, f0, f1, f2, f3, f4, f5, f6, fs⟩ hL hdep K hk0
      simp at hdep
      have e5 := f5 hdep.1
      have e4 := f4 hdep.2.1
      subst e4
      obtain ⟨b, cs, rfl, hn, hlo, hB⟩ := e5
      obtain ⟨c0, c1, rfl⟩ : ∃ c0 c1, cs = #[c0, c1] := two_of hn
      have q0 := hB.cell 0 _ rfl
      have r0 := hB.thaw 0
      have q1 := hB.cell 1 _ rfl
      have r1 := hB.thaw 1
      have HD := Lib.hid hdep.1
      have F0 := Lib.hid f0
      have F1 := Lib.hid f1
      have F2 := Lib.hid f2
      have F3 := Lib.hid f3
      have F4 := Lib.hid f4
      have F5 := Lib.hid f5
      have F6 := Lib.hid f6
      have FS := Lib.hid fs
      have HK := Lib.hid hK
      have HL := Lib.hid hL
      clear hK fs hL f0 f1 f2 f3 f4 f5 f6
      go_simp
      refine hk0.out _ _ ?_
      exact ⟨_, _, _, _, _, _, rfl, ((HK.out.put (p := ⟨b, 0, none⟩) (by show w.heap.size ≤ b; omega) (by intro t ht; simp at ht; rcases ht with rfl | rfl | rfl <;> (dsimp only; omega)) _).put (p := ⟨b, 1, none⟩) (by show w.heap.size ≤ b; omega) (by intro t ht; simp at ht; rcases ht with rfl | rfl | rfl <;> (dsimp only; omega)) _), fun hk => F0.out ((upd_ne (by decide)).symm.trans hk), fun hk => F1.out ((upd_ne (by decide)).symm.trans hk), fun hk => F2.out ((upd_ne (by decide)).symm.trans hk), fun hk => F3.out ((upd_ne (by decide)).symm.trans hk), fun hk => F4.out ((upd_ne (by decide)).symm.trans hk), fun _ => ⟨b, _, rfl, rfl, hlo, ((hB.put 0 (.int .i64 ja)).put 1 (.int .i64 jb))⟩, fun _ => ⟨b, rfl, hlo, ((hB.put 0 (.int .i64 ja)).put 1 (.int .i64 jb))⟩, fun _ => HD.out⟩
    · rintro L A x ⟨v6, v12, v13, v14, v15, v16, rfl, hK, f0, f1, f2, f3, f4, f5, f6, fs⟩ hall
      have e0 := f0 (hall 0 (by decide))
      subst e0
      have e1 := f1 (hall 1 (by decide))
      subst e1
      have e2 := f2 (hall 2 (by decide))
      subst e2
      have e3 := f3 (hall 3 (by decide))
      subst e3
      have e4 := f4 (hall 4 (by decide))
      subst e4
      obtain ⟨b, rfl, hlo, hB⟩ := f6 (hall 6 (by decide))
      clear f5 f6 fs hall f0 f1 f2 f3 f4
      have q0 := hB.cell 0 _ rfl
      have q1 := hB.cell 1 _ rfl
      have q2 := hK.c (b := b5) (T := 25) (vs := #[.int .i64 ja, .int .i64 jb]) (by simp) 0 _ rfl
      have q3 := hK.c (b := b5) (T := 25) (vs := #[.int .i64 ja, .int .i64 jb]) (by simp) 1 _ rfl
      have HK := Lib.hid hK
      clear hK hB
      go_wp2_with fail
      refine (eqLabel_same _ _ _).mono ?_
      rintro e z ⟨rfl, hb⟩
      go_wp2
      go_ret
      exact ⟨rfl, (HK.out.stay hb).1⟩
end Go.Proofs.Ytiooefcdlemodab
