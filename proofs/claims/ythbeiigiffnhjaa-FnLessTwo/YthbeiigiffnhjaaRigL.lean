/-
  The program's RightLess.
-/
import Derived.Test.YthbeiigiffnhjaaRigK
import Derived.Test.YthbeiigiffnhjaaRigT
namespace Go.Proofs.Ythbeiigiffnhjaa
open Go.RowKit
set_option linter.unusedVariables false

theorem mLessN (w : World) : (method 196 51 (.agg #[]) "loop.example/drawbar/impl.less").run Try.prog w = .ok (54, .agg #[]) w := by kernel_rfl
theorem mLessG (t v : Int) (r wr k : Bool) (w : World) : (method 196 52 (rgt t v r wr k) "loop.example/drawbar/impl.less").run Try.prog w = .ok (57, rgt t v r wr k) w := by kernel_rfl

set_option maxHeartbeats 2000000 in
theorem grantLess_any (t v : Int) (r wr k read write strong : Bool) (w : World) :
    Calls Try.prog 57 #[rgt t v r wr k, .bool read, .bool write, .bool strong] w fun e w' => e = .returned (rgt t v (r && read) (wr && (write && strong)) (k || !strong)) ∧ Below w.heap.size w w' := by
  cases r <;> rcases (show wr = false ∨ wr = true ∧ write = false ∨ wr = true ∧ write = true by cases wr <;> cases write <;> simp) with rfl | ⟨rfl, rfl⟩ | ⟨rfl, rfl⟩ <;> cases k
  all_goals
    go_enter Try.func57, Try.ntmps57
    go_wp2
    refine bodyPost_ret (v := rgt t v _ _ _) (by simp [results, Try.results57, go_sem]) rfl ⟨rfl, ?_⟩
    exact ((Below.refl _ _).alloc (Nat.le_refl _) _).alloc (by simp) _

set_option maxHeartbeats 2000000 in
theorem nothingLess_any (read write strong : Bool) (w : World) :
    Calls Try.prog 54 #[.agg #[], .bool read, .bool write, .bool strong] w fun e w' => e = .returned (rgt 0 0 false false false) ∧ Below w.heap.size w w' := by
  go_enter Try.func54, Try.ntmps54
  go_wp2
  refine bodyPost_ret (v := rgt 0 0 false false false) (by simp [results, Try.results54, go_sem]) rfl ⟨rfl, ?_⟩
  exact ((Below.refl _ _).alloc (Nat.le_refl _) _).alloc (by simp) _

set_option maxHeartbeats 1000000 in
theorem implLess_bad (t v : Int) (r wr k read write strong : Bool) (h : okR t v r wr k = false) (w : World) :
    Calls Try.prog 20 #[rgt t v r wr k, .bool read, .bool write, .bool strong] w fun e w' => e = .returned (rgt 0 0 false false false) ∧ Below w.heap.size w w' := by
  have K0 := Kn.two w 24 (rgtC t v r wr k) (rgtC 0 0 false false false)
  have H1 := Lib.hid h
  clear h
  go_enter Try.func20, Try.ntmps20
  go_wp2_with fail
  refine (implROk_val H1.out _).mono ?_
  rintro e x1 ⟨rfl, hb1⟩
  have K1 := K0.stay hb1
  have b2 := K1.box (b := w.heap.size + 1) (T := 24) (vs := rgtC 0 0 false false false) (by simp)
  have d0 := b2.cell 0 _ rfl
  have d1 := b2.cell 1 _ rfl
  have d2 := b2.cell 2 _ rfl
  have d3 := b2.cell 3 _ rfl
  have d4 := b2.cell 4 _ rfl
  have f0 := b2.thaw 0
  have f1 := b2.thaw 1
  have f2 := b2.thaw 2
  have f3 := b2.thaw 3
  have f4 := b2.thaw 4
  clear K0 hb1 b2
  go_wp2
  refine bodyPost_ret (v := rgt 0 0 false false false) (by simp [results, Try.results20, go_sem, *]) rfl ⟨rfl, ?_⟩
  repeat (first | exact K1.1 | refine Below.setCell ?_ (by dsimp only; omega) _)

set_option maxHeartbeats 1000000 in
theorem implLess_null (read write strong : Bool) (w : World) :
    Calls Try.prog 20 #[rgt 0 0 false false false, .bool read, .bool write, .bool strong] w fun e w' => e = .returned (rgt 0 0 false false false) ∧ Below w.heap.size w w' := by
  have K0 := Kn.two w 24 (rgtC 0 0 false false false) (rgtC 0 0 false false false)
  have hm := mLessN
  go_enter Try.func20, Try.ntmps20
  go_wp2_with fail
  refine (implROk_null _).mono ?_
  rintro e x1 ⟨rfl, hb1⟩
  have K1 := K0.stay hb1
  obtain ⟨q0, q1⟩ := bcell hb1
  have HK := Lib.hid K1
  clear K0 hb1 K1
  go_wp2_with fail
  refine (capOf_null _).mono ?_
  rintro e x2 ⟨rfl, hb2⟩
  have K2 := HK.out.stay hb2
  clear HK hb2 q0 q1
  have HK := Lib.hid K2
  clear K2
  go_wp2_with fail
  refine (nothingLess_any _ _ _ _).mono ?_
  rintro e x3 ⟨rfl, hb3⟩
  have K3 := HK.out.stay hb3
  have b2 := K3.box (b := w.heap.size + 1) (T := 24) (vs := rgtC 0 0 false false false) (by simp)
  have d0 := b2.cell 0 _ rfl
  have d1 := b2.cell 1 _ rfl
  have d2 := b2.cell 2 _ rfl
  have d3 := b2.cell 3 _ rfl
  have d4 := b2.cell 4 _ rfl
  have f0 := b2.thaw 0
  have f1 := b2.thaw 1
  have f2 := b2.thaw 2
  have f3 := b2.thaw 3
  have f4 := b2.thaw 4
  clear hb3 b2 HK
  go_wp2
  refine bodyPost_ret (v := rgt 0 0 false false false) (by simp [results, Try.results20, go_sem, *]) rfl ⟨rfl, ?_⟩
  repeat (first | exact K3.1 | refine Below.setCell ?_ (by dsimp only; omega) _)

set_option maxHeartbeats 1000000 in
theorem implLess_some (t v : Int) (r wr k read write strong : Bool) (h : okR t v r wr k = true) (hn : nullR t v r wr k = false) (w : World) :
    Calls Try.prog 20 #[rgt t v r wr k, .bool read, .bool write, .bool strong] w fun e w' => e = .returned (rgt t v (r && read) (wr && (write && strong)) (k || !strong)) ∧ Below w.heap.size w w' := by
  have K0 := Kn.two w 24 (rgtC t v r wr k) (rgtC 0 0 false false false)
  have hm := mLessG t v r wr k
  have H1 := Lib.hid h
  have H2 := Lib.hid hn
  have HL := Lib.hid (grantLess_any t v r wr k read write strong)
  clear h hn
  revert HL
  generalize (r && read) = b1
  generalize (wr && (write && strong)) = b2
  generalize (k || !strong) = b3
  intro HL
  go_enter Try.func20, Try.ntmps20
  go_wp2_with fail
  refine (implROk_val H1.out _).mono ?_
  rintro e x1 ⟨rfl, hb1⟩
  have K1 := K0.stay hb1
  obtain ⟨q0, q1⟩ := bcell hb1
  have HK := Lib.hid K1
  clear K0 hb1 K1
  go_wp2_with fail
  refine (capOf_some t v r wr k H2.out _).mono ?_
  rintro e x2 ⟨rfl, hb2⟩
  have K2 := HK.out.stay hb2
  clear HK hb2 q0 q1
  have HK := Lib.hid K2
  clear K2
  go_wp2_with fail
  refine (HL.out _).mono ?_
  rintro e x3 ⟨rfl, hb3⟩
  have K3 := HK.out.stay hb3
  have b2 := K3.box (b := w.heap.size + 1) (T := 24) (vs := rgtC 0 0 false false false) (by simp)
  have d0 := b2.cell 0 _ rfl
  have d1 := b2.cell 1 _ rfl
  have d2 := b2.cell 2 _ rfl
  have d3 := b2.cell 3 _ rfl
  have d4 := b2.cell 4 _ rfl
  have f0 := b2.thaw 0
  have f1 := b2.thaw 1
  have f2 := b2.thaw 2
  have f3 := b2.thaw 3
  have f4 := b2.thaw 4
  clear hb3 b2 HK HL
  go_wp2
  refine bodyPost_ret (v := rgt t v b1 _ b3) (by simp [results, Try.results20, go_sem, *]) rfl ⟨rfl, ?_⟩
  repeat (first | exact K3.1 | refine Below.setCell ?_ (by dsimp only; omega) _)

theorem implLess_any (t v : Int) (r wr k read write strong : Bool) (w : World) :
    Calls Try.prog 20 #[rgt t v r wr k, .bool read, .bool write, .bool strong] w fun e w' => e = .returned (lessV t v r wr k read write strong) ∧ Below w.heap.size w w' := by
  cases h : okR t v r wr k
  · have hg : lsG t v r wr k = false := by simp [lsG, h]
    rw [show lessV t v r wr k read write strong = rgt 0 0 false false false by simp only [lessV, hg, lsA, Bool.false_and]; rfl]
    exact implLess_bad t v r wr k read write strong h w
  · cases hn : nullR t v r wr k
    · have ht : ¬ t = 0 := by
        rintro rfl
        rw [okR_nonull hn] at h
        simp [okG, inR] at h
      have hg : lsG t v r wr k = true := by simp [lsG, h, ht]
      rw [show lessV t v r wr k read write strong = rgt t v (r && read) (wr && (write && strong)) (k || !strong) by simp only [lessV, hg, lsA, Bool.true_and]; rfl]
      exact implLess_some t v r wr k read write strong h hn w
    · obtain ⟨rfl, rfl, rfl, rfl, rfl⟩ := nullR_zero hn
      have := implLess_null read write strong w
      exact this
end Go.Proofs.Ythbeiigiffnhjaa
