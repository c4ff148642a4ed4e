/-
  The model's rights: containment whole, and lessening.
-/
import Derived.Test.YthbeiigiffnhjaaRigS
namespace Go.Proofs.Ythbeiigiffnhjaa
open Go.RowKit
set_option linter.unusedVariables false

/-- Both are ok, and one gives no more. -/
def inB (t v : Int) (r wr k : Bool) (t2 v2 : Int) (r2 wr2 k2 : Bool) : Bool := okR t v r wr k && (okR t2 v2 r2 wr2 k2 && inRgt t v r wr k t2 v2 r2 wr2 k2)

/-- Two boxes laid. -/
theorem Kn.two (w : World) (T : TypeId) (x1 x2 : Array Value) : Kn w [(w.heap.size, T, x1), (w.heap.size + 1, T, x2)] ((w.alloc (.cells x1 T)).alloc (.cells x2 T)) := by
  have h := ((Kn.refl (w := w)).new T x1).new T x2
  rw [show (w.alloc (.cells x1 T)).heap.size = w.heap.size + 1 by simp] at h
  exact h.less (by simp)

set_option maxHeartbeats 1000000 in
theorem specRIn_any (t v : Int) (r wr k : Bool) (t2 v2 : Int) (r2 wr2 k2 : Bool) (w : World) :
    Calls Try.prog 19 #[rgt t v r wr k, rgt t2 v2 r2 wr2 k2] w fun e w' => e = .returned (.bool (inB t v r wr k t2 v2 r2 wr2 k2)) ∧ Below w.heap.size w w' := by
  have K0 := Kn.two w 24 (rgtC t v r wr k) (rgtC t2 v2 r2 wr2 k2)
  cases h1 : okR t v r wr k
  · have hk : inB t v r wr k t2 v2 r2 wr2 k2 = false := by simp [inB, h1]
    rw [hk]
    have H1 := Lib.hid h1
    clear h1 hk
    go_enter Try.func19, Try.ntmps19
    go_wp2_with fail
    refine (specROk_val H1.out _).mono ?_
    rintro e x1 ⟨rfl, hb1⟩
    go_wp2
    go_ret
    exact ⟨rfl, (K0.stay hb1).1⟩
  cases h2 : okR t2 v2 r2 wr2 k2
  · have hk : inB t v r wr k t2 v2 r2 wr2 k2 = false := by simp [inB, h2]
    rw [hk]
    have H1 := Lib.hid h1
    have H2 := Lib.hid h2
    clear h1 h2 hk
    go_enter Try.func19, Try.ntmps19
    go_wp2_with fail
    refine (specROk_val H1.out _).mono ?_
    rintro e x1 ⟨rfl, hb1⟩
    have K1 := K0.stay hb1
    have HK := Lib.hid K1
    obtain ⟨q0, q1⟩ := bcell hb1
    clear K0 hb1 K1
    go_wp2_with fail
    refine (specROk_val H2.out _).mono ?_
    rintro e x2 ⟨rfl, hb2⟩
    go_wp2
    go_ret
    exact ⟨rfl, (HK.out.stay hb2).1⟩
  · have hk : inB t v r wr k t2 v2 r2 wr2 k2 = inRgt t v r wr k t2 v2 r2 wr2 k2 := by simp [inB, h1, h2]
    rw [hk]
    have H1 := Lib.hid h1
    have H2 := Lib.hid h2
    clear h1 h2 hk
    go_enter Try.func19, Try.ntmps19
    go_wp2_with fail
    refine (specROk_val H1.out _).mono ?_
    rintro e x1 ⟨rfl, hb1⟩
    have K1 := K0.stay hb1
    have HK := Lib.hid K1
    obtain ⟨q0, q1⟩ := bcell hb1
    clear K0 hb1 K1
    go_wp2_with fail
    refine (specROk_val H2.out _).mono ?_
    rintro e x2 ⟨rfl, hb2⟩
    have K2 := HK.out.stay hb2
    have b1 := K2.box (b := w.heap.size) (T := 24) (vs := rgtC t v r wr k) (by simp)
    have b2 := K2.box (b := w.heap.size + 1) (T := 24) (vs := rgtC t2 v2 r2 wr2 k2) (by simp)
    have c0 := b1.cell 0 _ rfl
    have c1 := b1.cell 1 _ rfl
    have c2 := b1.cell 2 _ rfl
    have c3 := b1.cell 3 _ rfl
    have c4 := b1.cell 4 _ rfl
    have d0 := b2.cell 0 _ rfl
    have d1 := b2.cell 1 _ rfl
    have d2 := b2.cell 2 _ rfl
    have d3 := b2.cell 3 _ rfl
    have d4 := b2.cell 4 _ rfl
    have HK2 := Lib.hid K2
    clear HK K2 hb2 q0 q1 b1 b2
    go_wp2_with fail
    refine (l2In_any _ _ _ _ _ _ _ _ _ _ _).mono ?_
    rintro e x3 ⟨rfl, hb3⟩
    go_wp2
    go_ret
    exact ⟨rfl, (HK2.out.stay hb3).1⟩
theorem specRIn_val {t v : Int} {r wr k : Bool} {t2 v2 : Int} {r2 wr2 k2 b : Bool} (h : inB t v r wr k t2 v2 r2 wr2 k2 = b) (w : World) :
    Calls Try.prog 19 #[rgt t v r wr k, rgt t2 v2 r2 wr2 k2] w fun e w' => e = .returned (.bool b) ∧ Below w.heap.size w w' := by
  subst h; exact specRIn_any t v r wr k t2 v2 r2 wr2 k2 w

set_option maxHeartbeats 2000000 in
theorem l2Less_some (t v : Int) (r wr k read write strong : Bool) (w : World) (ht : ¬ t = 0) :
    Calls Try.prog 35 #[rgt t v r wr k, .bool read, .bool write, .bool strong] w fun e w' => e = .returned (rgt t v (r && read) (wr && (write && strong)) (k || !strong)) ∧ Below w.heap.size w w' := by
  have ht' : (t == 0) = false := by simpa using ht
  clear ht
  cases r <;> rcases (show wr = false ∨ wr = true ∧ write = false ∨ wr = true ∧ write = true by cases wr <;> cases write <;> simp) with rfl | ⟨rfl, rfl⟩ | ⟨rfl, rfl⟩ <;> cases k
  all_goals
    go_enter Try.func35, Try.ntmps35
    go_wp2
    refine bodyPost_ret (v := rgt t v _ _ _) (by simp [results, Try.results35, go_sem]) rfl ⟨rfl, ?_⟩
    exact ((Below.refl _ _).alloc (Nat.le_refl _) _).alloc (by simp) _

/-- A right that can be lessened: ok, and to something. -/
def lsG (t v : Int) (r wr k : Bool) : Bool := okR t v r wr k && !(t == 0)
def lsA (g : Bool) (x : Int) : Int := if g then x else 0
/-- The lessened right; the zero value where there is none. -/
abbrev lessV (t v : Int) (r wr k read write strong : Bool) : Value := rgt (lsA (lsG t v r wr k) t) (lsA (lsG t v r wr k) v) (lsG t v r wr k && (r && read)) (lsG t v r wr k && (wr && (write && strong))) (lsG t v r wr k && (k || !strong))

set_option maxHeartbeats 1000000 in
theorem l2Less_null (v : Int) (r wr k read write strong : Bool) (w : World) :
    Calls Try.prog 35 #[rgt 0 v r wr k, .bool read, .bool write, .bool strong] w fun e w' => e = .returned (rgt 0 v r wr k) ∧ Below w.heap.size w w' := by
  go_enter Try.func35, Try.ntmps35
  go_wp2
  refine bodyPost_ret (v := rgt 0 v r wr k) (by simp [results, Try.results35, go_sem]) rfl ⟨rfl, ?_⟩
  exact ((Below.refl _ _).alloc (Nat.le_refl _) _).alloc (by simp) _

set_option maxHeartbeats 1000000 in
theorem specLess_of (t v : Int) (r wr k read write strong : Bool) (a1 a2 : Int) (b1 b2 b3 : Bool) (w : World)
    (HC : Hid (∀ x : World, okR t v r wr k = true → Calls Try.prog 35 #[rgt t v r wr k, .bool read, .bool write, .bool strong] x fun e x' => e = .returned (rgt a1 a2 b1 b2 b3) ∧ Below x.heap.size x x'))
    (hbad : okR t v r wr k = false → a1 = 0 ∧ a2 = 0 ∧ b1 = false ∧ b2 = false ∧ b3 = false) :
    Calls Try.prog 22 #[rgt t v r wr k, .bool read, .bool write, .bool strong] w fun e w' => e = .returned (rgt a1 a2 b1 b2 b3) ∧ Below w.heap.size w w' := by
  have K0 := Kn.two w 24 (rgtC t v r wr k) (rgtC 0 0 false false false)
  cases h1 : okR t v r wr k
  · obtain ⟨rfl, rfl, rfl, rfl, rfl⟩ := hbad h1
    have H1 := Lib.hid h1
    clear h1 hbad
    go_enter Try.func22, Try.ntmps22
    go_wp2_with fail
    refine (specROk_val H1.out _).mono ?_
    rintro e x1 ⟨rfl, hb1⟩
    have K1 := K0.stay hb1
    have b2 := K1.box (b := w.heap.size + 1) (T := 24) (vs := rgtC 0 0 false false false) (by simp)
    have d0 := b2.cell 0 _ rfl
    have d1 := b2.cell 1 _ rfl
    have d2 := b2.cell 2 _ rfl
    have d3 := b2.cell 3 _ rfl
    have d4 := b2.cell 4 _ rfl
    have f0 := b2.thaw 0
    have f1 := b2.thaw 1
    have f2 := b2.thaw 2
    have f3 := b2.thaw 3
    have f4 := b2.thaw 4
    clear K0 hb1 b2 HC
    go_wp2
    refine bodyPost_ret (v := rgt 0 0 false false false) (by simp [results, Try.results22, go_sem, *]) rfl ⟨rfl, ?_⟩
    repeat (first | exact K1.1 | refine Below.setCell ?_ (by dsimp only; omega) _)
  · have H1 := Lib.hid h1
    clear h1 hbad
    go_enter Try.func22, Try.ntmps22
    go_wp2_with fail
    refine (specROk_val H1.out _).mono ?_
    rintro e x1 ⟨rfl, hb1⟩
    have K1 := K0.stay hb1
    obtain ⟨q0, q1⟩ := bcell hb1
    have HK := Lib.hid K1
    clear K0 hb1 K1
    go_wp2_with fail
    refine (HC.out _ H1.out).mono ?_
    rintro e x2 ⟨rfl, hb2⟩
    have K2 := HK.out.stay hb2
    have b2 := K2.box (b := w.heap.size + 1) (T := 24) (vs := rgtC 0 0 false false false) (by simp)
    have d0 := b2.cell 0 _ rfl
    have d1 := b2.cell 1 _ rfl
    have d2 := b2.cell 2 _ rfl
    have d3 := b2.cell 3 _ rfl
    have d4 := b2.cell 4 _ rfl
    have f0 := b2.thaw 0
    have f1 := b2.thaw 1
    have f2 := b2.thaw 2
    have f3 := b2.thaw 3
    have f4 := b2.thaw 4
    clear hb2 b2 HC HK q0 q1
    go_wp2
    refine bodyPost_ret (v := rgt a1 a2 b1 b2 b3) (by simp [results, Try.results22, go_sem, *]) rfl ⟨rfl, ?_⟩
    repeat (first | exact K2.1 | refine Below.setCell ?_ (by dsimp only; omega) _)

theorem specLess_any (t v : Int) (r wr k read write strong : Bool) (w : World) :
    Calls Try.prog 22 #[rgt t v r wr k, .bool read, .bool write, .bool strong] w fun e w' => e = .returned (lessV t v r wr k read write strong) ∧ Below w.heap.size w w' := by
  refine specLess_of t v r wr k read write strong _ _ _ _ _ w (Lib.hid fun x h => ?_) (fun h => ?_)
  · by_cases ht : t = 0
    · subst ht
      obtain ⟨rfl, rfl, rfl, rfl⟩ := okR_null h
      exact l2Less_null 0 false false false read write strong x
    · have hg : lsG t v r wr k = true := by simp [lsG, h, ht]
      have := l2Less_some t v r wr k read write strong x ht
      simpa [hg, lsA] using this
  · have hg : lsG t v r wr k = false := by simp [lsG, h]
    simp [hg, lsA]
end Go.Proofs.Ythbeiigiffnhjaa
