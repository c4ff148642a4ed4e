/-
  Texts as lists of bytes; decimals of a table's numbers, as the model writes them.
-/
import Derived.Test.YtpahahonopiblaaDoorTxtD
import Derived.Test.YtpahahonopiblaaDoorDecI
import Derived.Test.YtpahahonopiblaaDoorLabT
import Derived.Deep.RegionWith
namespace Go.Proofs.YtpahahonopiblaaDoor
open Go.RowKit
set_option linter.unusedVariables false
set_option maxRecDepth 100000

/-- A text, as its bytes. -/
def B (l : List UInt8) : ByteArray := ⟨l.toArray⟩
theorem B_app (a b : List UInt8) : B a ++ B b = B (a ++ b) := by
  apply ByteArray.ext
  show (B a ++ B b).data = (a ++ b).toArray
  simp [B, ByteArray.data_append]
theorem B_inj {a b : List UInt8} (h : B a = B b) : a = b := by
  have := congrArg (fun x => x.data.toList) h
  simpa [B] using this
theorem B_of (b : ByteArray) : B b.data.toList = b := by
  cases b; simp [B]
theorem decT_B (n : Int) : decT n = B (decL n) := by
  unfold decT decL dig B
  repeat' split
  all_goals rfl
theorem txt_B {s v : Int} (h : okL s v = true) : txt s v = B (decL s ++ 47 :: decL v) := by
  obtain ⟨a0, a3⟩ := okN_bd (okL1 h)
  obtain ⟨b0, b3⟩ := okN_bd (okL2 h)
  rw [txt_ok h]
  unfold decL
  rw [if_neg (by omega), if_pos (by omega), if_neg (by omega), if_pos (by omega)]
  rfl
theorem txtR_B (r : R5) : txtR r.t r.v r.r r.w r.k = B (rgtL r) := (B_of _).symm
/-- A byte read as a text. -/
theorem cvt1 (W : World) (b : Nat) (x : Int) (h : Box W b 5 #[.int .u8 x]) : (convert 29 9 (.slice (some ⟨b, 0, none⟩) 1 1)).run Tryd.prog W = .ok (.string (strOfNums [x])) W :=
  run_convert_bytes_arg _ 29 5 Tryd.underlying29 Tryd.underlying5 b 0 1 1 [x] rfl (fun i hi => by
    obtain rfl : i = 0 := by omega
    exact h.cell 0 _ rfl) 9 Tryd.underlying9
theorem two_txt {n q m : Int} (hq : n / 10 = q) (hm : n % 10 = m) (h : 10 ≤ n ∧ n ≤ 99) : dig q ++ strOfNums [48 + m] = B (decL n) := by
  subst hq hm
  have key : ∀ k : Fin 90, dig (((k.val : Int) + 10) / 10) ++ strOfNums [48 + ((k.val : Int) + 10) % 10] = B (decL ((k.val : Int) + 10)) := by decide +kernel
  have := key ⟨(n - 10).toNat, by omega⟩
  dsimp only at this
  rwa [show (((n - 10).toNat : Nat) : Int) + 10 = n by omega] at this

set_option maxHeartbeats 4000000 in
theorem l6Dec_two (n q m : Int) (w : World) (h : 10 ≤ n ∧ n ≤ 99) (hq : n / 10 = q) (hm : n % 10 = m) :
    Calls Tryd.prog 85 #[.int .i64 n] w fun e w' => e = .returned (.string (B (decL n))) ∧ Below w.heap.size w w' := by
  have Q0 := Lib.hid (show 0 ≤ q by omega)
  have Q9 := Lib.hid (show q ≤ 9 by omega)
  have HT := Lib.hid (two_txt hq hm h)
  have f0 : ¬ n < -9223372036854775807 := by omega
  have f1 : ¬ n < 0 := by omega
  have f2 : ¬ n < 10 := by omega
  have d1 : Int.tdiv n 10 = q := by rw [Int.tdiv_eq_ediv_of_nonneg (by omega)]; exact hq
  have d2 : Int.tmod n 10 = m := by rw [Int.tmod_eq_emod_of_nonneg (by omega)]; exact hm
  have d3 : wrap64 q = q := by unfold wrap64; omega
  have d4 : IntKind.i64.wrap q = q := IntWalk.i64_in _ (by omega)
  have d5 : IntKind.u8.wrap (48 + m) = 48 + m := by rw [IntKind.wrap_u8]; omega
  have d6 : wrap64 (48 + m) = 48 + m := by unfold wrap64; omega
  have d8 : IntKind.i64.wrap (48 + m) = 48 + m := IntWalk.i64_in _ (by omega)
  have d7 : wrap64 m = m := by unfold wrap64; omega
  have zs : (strOfNums [48 + m]).size = 1 := rfl
  have hb0 : Below w.heap.size w w.drew := (Below.refl _ _).drew
  have hbA : Below w.heap.size w (w.alloc (.cells #[.int .u8 (48 + m)] 5)).drew := ((Below.refl _ _).alloc (Nat.le_refl _) _).drew
  have k1 := cvt1 (w.alloc (.cells #[.int .u8 (48 + m)] 5)).drew w.heap.size (48 + m) (Box.fresh w _ _).drew
  have k2 : ∀ W : World, (convert 29 9 (.slice (some ⟨W.heap.size, 0, none⟩) 1 1)).run Tryd.prog (W.alloc (.cells #[.int .u8 (48 + m)] 5)) = .ok (.string (strOfNums [48 + m])) (W.alloc (.cells #[.int .u8 (48 + m)] 5)) := fun W => cvt1 _ _ _ (Box.fresh W _ _)
  clear h hq hm
  go_enter Tryd.func85, Tryd.ntmps85
  go_upto_region 7 with fail
  go_region_with (go_at_call 85; refine (l6Dec_any q _ Q0.out Q9.out).mono ?_; rintro e y ⟨rfl, hb⟩; (try (have bz := (Box.fresh w 5 #[.int .u8 (48 + m)]).drew.stay hb; have kz := cvt1 y w.heap.size (48 + m) bz; clear bz)); have HB := Lib.hid hb; clear hb)
  all_goals
    go_wp2
    go_ret
    refine ⟨by rw [← HT.out]; rfl, ?_⟩
    first | exact (hb0.trans HB.out).alloc (hb0.trans HB.out).size _ | exact hbA.trans (HB.out.mono (by rw [World.size_drew]; simp)) | exact hb0.trans HB.out
end Go.Proofs.YtpahahonopiblaaDoor
