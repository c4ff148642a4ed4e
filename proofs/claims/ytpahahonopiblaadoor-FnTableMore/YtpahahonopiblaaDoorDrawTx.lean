/-
  A table drawn for its text; a table, a thing and a label.
-/
import Derived.Test.YtpahahonopiblaaDoorDrawFi
import Derived.Test.YtpahahonopiblaaDoorDrawTbO
namespace Go.Proofs.YtpahahonopiblaaDoor
open Go.RowKit
set_option maxRecDepth 100000
set_option linter.unusedVariables false

set_option maxHeartbeats 4000000 in
theorem drawTx_any (a : Option Addr) (len cap : Nat) (zs : List Int) (w : World) (h : IsRow .u8 w a len cap zs) :
    Calls Tryd.prog 18 #[.slice a len cap] w (TbOPost w) := by
  have H := Lib.hid h
  clear h
  unfold TbOPost
  go_enter Tryd.func18, Tryd.ntmps18
  go_wp2_with fail
  refine (l6Open_any a len cap zs _ H.out).mono ?_
  rintro e w1' ⟨rfl, rfl⟩
  have hR0 := rd_open H.out
  obtain ⟨w1, hw1⟩ : ∃ w1, w.alloc (.cells #[.slice a (min len 2000) cap, .int .i64 0] 123) = w1 := ⟨_, rfl⟩
  rw [hw1] at hR0
  have hz1 : w1.heap.size = w.heap.size + 1 := by rw [← hw1]; simp
  have hb1 : Below w.heap.size w w1 := by rw [← hw1]; exact (Below.refl _ _).alloc (Nat.le_refl _) _
  have HB1 := Lib.hid hb1
  have S0 := Lib.hid (St.start hR0)
  clear hR0 hb1
  go_wp2_with fail
  refine (l71Fine_any _ a _ cap zs 0 _ S0.out.2.1 (by omega)).mono ?_
  rintro e y ⟨g, c, ts, rfl, tO, t3, t8, p1, hp1, r1, g1⟩
  have S1 := Lib.hid (S0.out.on g1 r1)
  have T1 := Lib.hid tO
  clear tO r1 g1 S0
  obtain ⟨N, hN⟩ : ∃ N, ts.length = N := ⟨_, rfl⟩
  rw [hN] at T1 t3 t8 ⊢
  have HN := Lib.hid hN
  have hT := Lib.hid (TaO.hasT (s := ⟨some ⟨g, 0, none⟩, N, c⟩) T1.out)
  clear hN
  go_wp2
  go_ret
  refine ⟨g, c, ts.map (·.1), ?he, ?ht, by simp [HN.out]; omega, by simp [HN.out]; omega, T1.out.sizes, ?hb⟩
  case he => simp only [List.length_map, HN.out]; rfl
  case ht => simp only [List.length_map, HN.out]; exact hT.out
  case hb => exact HB1.out.trans (S1.out.1.1.below (by omega) (by omega))
end Go.Proofs.YtpahahonopiblaaDoor
