/-
  A table drawn for its form.
-/
import Derived.Test.YtpahahonopiblaaDoorDrawFi
namespace Go.Proofs.YtpahahonopiblaaDoor
open Go.RowKit
set_option maxRecDepth 100000
set_option linter.unusedVariables false

/-- What a table drawn for its form leaves. -/
def TbOPost (w : World) (e : Ending) (w' : World) : Prop :=
  ∃ (g c : Nat) (l : List T8), e = .returned (.slice (some ⟨g, 0, none⟩) l.length c) ∧ HasT w' ⟨some ⟨g, 0, none⟩, l.length, c⟩ l ∧ 3 ≤ l.length ∧ l.length ≤ 8 ∧ (∀ i (h : i < l.length), l[i].slots.length ≤ 1048576) ∧ Below w.heap.size w w'
theorem four4 (m : Nat) (h : m < 4) : ∃ z : Int, (#[.int .i64 (-4), .int .i64 (-1), .int .i64 0, .int .i64 50] : Array Value)[m]? = some (.int .i64 z) := by
  match m, h with
  | 0, _ => exact ⟨_, rfl⟩
  | 1, _ => exact ⟨_, rfl⟩
  | 2, _ => exact ⟨_, rfl⟩
  | 3, _ => exact ⟨_, rfl⟩

set_option maxHeartbeats 8000000 in
theorem drawTbO_any (a : Option Addr) (len cap : Nat) (zs : List Int) (w : World) (h : IsRow .u8 w a len cap zs) :
    Calls Tryd.prog 19 #[.slice a len cap] w (TbOPost w) := by
  have H := Lib.hid h
  clear h
  unfold TbOPost
  go_enter Tryd.func19, Tryd.ntmps19
  go_wp2_with fail
  refine (l6Open_any a len cap zs _ H.out).mono ?_
  rintro e w1' ⟨rfl, rfl⟩
  have hR0 := rd_open H.out
  obtain ⟨w1, hw1⟩ : ∃ w1, w.alloc (.cells #[.slice a (min len 2000) cap, .int .i64 0] 123) = w1 := ⟨_, rfl⟩
  have hb1 : Below w.heap.size w w1 := by rw [← hw1]; exact (Below.refl _ _).alloc (Nat.le_refl _) _
  have hz1 : w1.heap.size = w.heap.size + 1 := by rw [← hw1]; simp
  rw [hw1] at hR0
  have HB1 := Lib.hid hb1
  have S0 := Lib.hid (St.start hR0)
  have hrw := S0.out.2.2.1
  clear hR0 hb1
  go_wp2_with fail
  refine (l71Table_any _ a _ cap zs 0 _ S0.out.2.1 (by omega)).mono ?_
  rintro e y ⟨g, c, ts, rfl, tO, t3, t8, p1, hp1, r1, g1⟩
  have S1 := Lib.hid (S0.out.on g1 r1)
  have T1 := Lib.hid tO
  clear tO r1 g1 S0
  obtain ⟨N, hN⟩ : ∃ N, ts.length = N := ⟨_, rfl⟩
  rw [hN] at T1 t3 t8 ⊢
  have HN := Lib.hid hN
  clear hN
  go_wp2_with fail
  refine (pick_any _ a _ cap zs p1 6 _ S1.out.2.1 (by omega) (by decide) (by decide)).mono ?_
  rintro e w4 ⟨n1, n1a, n1b, rfl, r4, g4, -⟩
  have S4 := Lib.hid (S1.out.on g4 r4)
  have T4 := Lib.hid (T1.out.grew hrw g4)
  clear r4 g4 S1 T1
  by_cases h0 : n1 = 0
  · subst h0
    go_wp2_with fail
    refine (pick_any _ a _ cap zs (p1 + 1) N _ S4.out.2.1 (by omega) (by omega) (by omega)).mono ?_
    rintro e w5 ⟨n2, n2a, n2b, rfl, r5, g5, -⟩
    obtain ⟨i, rfl⟩ : ∃ i : Nat, n2 = i := ⟨n2.toNat, by omega⟩
    have S5 := Lib.hid ((S4.out.on g5 r5).new 3 #[.int .i64 (-4), .int .i64 (-1), .int .i64 0, .int .i64 50])
    have T5 := Lib.hid ((T4.out.grew hrw g5).stay ((Below.refl _ _).alloc (Nat.le_refl _) (.cells #[.int .i64 (-4), .int .i64 (-1), .int .i64 0, .int .i64 50] 3)))
    clear r5 g5 S4 T4
    go_wp2_with fail
    refine (pick_any _ a _ cap zs (p1 + 1 + 1) 4 _ S5.out.2.1 (by omega) (by decide) (by decide)).mono ?_
    rintro e w6 ⟨n3, n3a, n3b, rfl, r6, g6, -⟩
    obtain ⟨j, rfl⟩ : ∃ j : Nat, n3 = j := ⟨n3.toNat, by omega⟩
    have S6 := Lib.hid (S5.out.on g6 r6)
    have T6 := Lib.hid (T5.out.grew hrw g6)
    clear r6 g6 S5 T5
    obtain ⟨z, hz⟩ := four4 j (by omega)
    have cz := S6.out.1.c (b := w5.heap.size) (T := 3) (vs := #[.int .i64 (-4), .int .i64 (-1), .int .i64 0, .int .i64 50]) (by simp) j _ hz
    have hj4 : (j : Int) < 4 := by omega
    have hiN : i < N := by omega
    obtain ⟨t, ht⟩ : ∃ t, ts[i]? = some t := ⟨ts[i]'(by rw [HN.out]; exact hiN), List.getElem?_eq_getElem _⟩
    have d4 : w6.cell? ⟨g, i * 8 + 4, none⟩ = some (.int .i64 t.1.num) := T6.out.at ht 4 _ rfl
    have fz := T6.out.thaw (by have := HN.out; omega) (i * 8 + 4)
    have hgl := cell_lt d4
    have tF := T6.out.put ht 4 (by decide) (.int .i64 z) (t' := ({ t.1 with num := z }, t.2)) (by simp) (fun W' h => h.as rfl rfl) (T6.out.2 t (List.mem_of_getElem? ht)).2
    have hg2 := (T6.out.box (by have := HN.out; omega)).1
    have TF := Lib.hid tF
    clear tF hz ht
    go_wp2
    go_ret
    have hT := TaO.hasT (s := ⟨some ⟨g, 0, none⟩, N, c⟩) TF.out
    refine ⟨g, c, (ts.set i ({ t.1 with num := z }, t.2)).map (·.1), ?_, ?_, by simp [HN.out]; omega, by simp [HN.out]; omega, TF.out.sizes, ?_⟩
    · simp [HN.out]
    · simp only [List.length_map, List.length_set, HN.out]; exact hT
    · exact (HB1.out.trans (S6.out.1.1.below (by omega) (by omega))).setCell (p := ⟨g, i * 8 + 4, none⟩) (by dsimp only; omega) _
  · have h0' : (n1 == 0) = false := by simpa using h0
    go_wp2
    go_ret
    have hT := TaO.hasT (s := ⟨some ⟨g, 0, none⟩, N, c⟩) T4.out
    refine ⟨g, c, ts.map (·.1), ?_, ?_, by simp [HN.out]; omega, by simp [HN.out]; omega, T4.out.sizes, ?_⟩
    · simp [HN.out]
    · simp only [List.length_map, HN.out]; exact hT
    · exact HB1.out.trans (S4.out.1.1.below (by omega) (by omega))
end Go.Proofs.YtpahahonopiblaaDoor
