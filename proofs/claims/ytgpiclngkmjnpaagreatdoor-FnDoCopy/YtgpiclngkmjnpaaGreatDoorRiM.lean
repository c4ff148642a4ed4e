/-
  Texts of ours as one: RigN, RigO, LessP.
-/
import Derived.Test.YtgpiclngkmjnpaaGreatDoorRigK
import Derived.Test.YtgpiclngkmjnpaaGreatDoorCkN
namespace Go.Proofs.YtgpiclngkmjnpaaGreatDoor
open Go.RowKit
set_option linter.unusedVariables false

set_option maxHeartbeats 400000 in
theorem implies_any (a b : Bool) (w : World) :
    Calls Tryz.prog 91 #[.bool a, .bool b] w fun e w' => e = .returned (.bool (!a || b)) ∧ w = w' := by
  cases a
  all_goals
    go_enter Tryz.func91, Tryz.ntmps91
    go_wp2
    go_ret
    exact ⟨rfl, rfl⟩
theorem implies_val {a b c : Bool} (h : (!a || b) = c) (w : World) :
    Calls Tryz.prog 91 #[.bool a, .bool b] w fun e w' => e = .returned (.bool c) ∧ w = w' := by
  subst h; exact implies_any a b w

/-- One right to something gives no more than another one. -/
def inG (t v : Int) (r wr k : Bool) (t2 v2 : Int) (r2 wr2 k2 : Bool) : Bool := t == t2 && (v == v2 && ((!r || r2) && ((!wr || wr2) && (!k2 || k))))

set_option maxHeartbeats 2000000 in
theorem withinR_any (t v : Int) (r wr k : Bool) (t2 v2 : Int) (r2 wr2 k2 : Bool) (w : World) :
    Calls Tryz.prog 57 #[rgt t v r wr k, rgt t2 v2 r2 wr2 k2] w fun e w' => e = .returned (.bool (inG t v r wr k t2 v2 r2 wr2 k2)) ∧ Below w.heap.size w w' := by
  by_cases h1 : t = t2
  · subst h1
    by_cases h2 : v = v2
    · subst h2
      have hk : inG t v r wr k t v r2 wr2 k2 = ((!r || r2) && ((!wr || wr2) && (!k2 || k))) := by simp [inG]
      rw [hk]
      clear hk
      cases g1 : (!r || r2)
      · have G1 := Lib.hid g1
        clear g1
        rw [Bool.false_and]
        go_enter Tryz.func57, Tryz.ntmps57
        go_wp2_with fail
        refine (implies_val G1.out _).mono ?_
        rintro e w' ⟨rfl, rfl⟩
        go_wp2
        go_ret
        exact ⟨rfl, ((Below.refl _ _).alloc (Nat.le_refl _) _).alloc (by simp) _⟩
      rw [Bool.true_and]
      have G1 := Lib.hid g1
      clear g1
      cases g2 : (!wr || wr2)
      · have G2 := Lib.hid g2
        clear g2
        rw [Bool.false_and]
        go_enter Tryz.func57, Tryz.ntmps57
        go_wp2_with fail
        refine (implies_val G1.out _).mono ?_
        rintro e w' ⟨rfl, rfl⟩
        go_wp2_with fail
        refine (implies_val G2.out _).mono ?_
        rintro e w' ⟨rfl, rfl⟩
        go_wp2
        go_ret
        exact ⟨rfl, ((Below.refl _ _).alloc (Nat.le_refl _) _).alloc (by simp) _⟩
      rw [Bool.true_and]
      have G2 := Lib.hid g2
      clear g2
      go_enter Tryz.func57, Tryz.ntmps57
      go_wp2_with fail
      refine (implies_val G1.out _).mono ?_
      rintro e w' ⟨rfl, rfl⟩
      go_wp2_with fail
      refine (implies_val G2.out _).mono ?_
      rintro e w' ⟨rfl, rfl⟩
      go_wp2_with fail
      refine (implies_any k2 k _).mono ?_
      rintro e w' ⟨rfl, rfl⟩
      go_wp2
      go_ret
      exact ⟨rfl, ((Below.refl _ _).alloc (Nat.le_refl _) _).alloc (by simp) _⟩
    · have h2' : (v == v2) = false := by simpa using h2
      have hk : inG t v r wr k t v2 r2 wr2 k2 = false := by simp [inG, h2]
      rw [hk]
      clear hk h2
      go_enter Tryz.func57, Tryz.ntmps57
      go_wp2
      go_ret
      exact ⟨rfl, ((Below.refl _ _).alloc (Nat.le_refl _) _).alloc (by simp) _⟩
  · have h1' : (t == t2) = false := by simpa using h1
    have hk : inG t v r wr k t2 v2 r2 wr2 k2 = false := by simp [inG, h1]
    rw [hk]
    clear hk h1
    go_enter Tryz.func57, Tryz.ntmps57
    go_wp2
    go_ret
    exact ⟨rfl, ((Below.refl _ _).alloc (Nat.le_refl _) _).alloc (by simp) _⟩
end Go.Proofs.YtgpiclngkmjnpaaGreatDoor

namespace Go.Proofs.YtgpiclngkmjnpaaGreatDoor
open Go.RowKit
set_option linter.unusedVariables false

theorem taNN (w : World) : (Instr.typeAssert capN 80 84 true).run Tryz.prog w = .ok (.tuple #[.agg #[], .bool true]) w := by kernel_rfl
theorem taGN (t v : Int) (r wr k : Bool) (w : World) : (Instr.typeAssert (capG t v r wr k) 80 84 true).run Tryz.prog w = .ok (.tuple #[.agg #[], .bool false]) w := by kernel_rfl
theorem taGG (t v : Int) (r wr k : Bool) (w : World) : (Instr.typeAssert (capG t v r wr k) 80 85 true).run Tryz.prog w = .ok (.tuple #[rgt t v r wr k, .bool true]) w := by kernel_rfl
theorem taNG (w : World) : (Instr.typeAssert capN 80 85 true).run Tryz.prog w = .ok (.tuple #[rgt 0 0 false false false, .bool false]) w := by kernel_rfl

set_option maxHeartbeats 1000000 in
theorem implRIn_bad1 (t v : Int) (r wr k : Bool) (t2 v2 : Int) (r2 wr2 k2 : Bool) (h1 : okR t v r wr k = false) (w : World) :
    Calls Tryz.prog 26 #[rgt t v r wr k, rgt t2 v2 r2 wr2 k2] w fun e w' => e = .returned (.bool false) ∧ Below w.heap.size w w' := by
  have K0 := Kn.two w 42 (rgtC t v r wr k) (rgtC t2 v2 r2 wr2 k2)
  have H1 := Lib.hid h1
  clear h1
  go_enter Tryz.func26, Tryz.ntmps26
  go_wp2_with fail
  refine (implROk_val H1.out _).mono ?_
  rintro e x1 ⟨rfl, hb1⟩
  go_wp2
  go_ret
  exact ⟨rfl, (K0.stay hb1).1⟩

set_option maxHeartbeats 1000000 in
theorem implRIn_bad2 (t v : Int) (r wr k : Bool) (t2 v2 : Int) (r2 wr2 k2 : Bool) (h1 : okR t v r wr k = true) (h2 : okR t2 v2 r2 wr2 k2 = false) (w : World) :
    Calls Tryz.prog 26 #[rgt t v r wr k, rgt t2 v2 r2 wr2 k2] w fun e w' => e = .returned (.bool false) ∧ Below w.heap.size w w' := by
  have K0 := Kn.two w 42 (rgtC t v r wr k) (rgtC t2 v2 r2 wr2 k2)
  have H1 := Lib.hid h1
  have H2 := Lib.hid h2
  clear h1 h2
  go_enter Tryz.func26, Tryz.ntmps26
  go_wp2_with fail
  refine (implROk_val H1.out _).mono ?_
  rintro e x1 ⟨rfl, hb1⟩
  have K1 := K0.stay hb1
  have HK := Lib.hid K1
  obtain ⟨q0, q1⟩ := bcell hb1
  clear K0 hb1 K1
  go_wp2_with fail
  refine (implROk_val H2.out _).mono ?_
  rintro e x2 ⟨rfl, hb2⟩
  go_wp2
  go_ret
  exact ⟨rfl, (HK.out.stay hb2).1⟩

set_option maxHeartbeats 1000000 in
theorem implRIn_null (t2 v2 : Int) (r2 wr2 k2 : Bool) (h2 : okR t2 v2 r2 wr2 k2 = true) (w : World) :
    Calls Tryz.prog 26 #[rgt 0 0 false false false, rgt t2 v2 r2 wr2 k2] w fun e w' => e = .returned (.bool true) ∧ Below w.heap.size w w' := by
  have K0 := Kn.two w 42 (rgtC 0 0 false false false) (rgtC t2 v2 r2 wr2 k2)
  have H2 := Lib.hid h2
  clear h2
  go_enter Tryz.func26, Tryz.ntmps26
  go_wp2_with fail
  refine (implROk_null _).mono ?_
  rintro e x1 ⟨rfl, hb1⟩
  have K1 := K0.stay hb1
  have HK := Lib.hid K1
  obtain ⟨q0, q1⟩ := bcell hb1
  clear K0 hb1 K1
  go_wp2_with fail
  refine (implROk_val H2.out _).mono ?_
  rintro e x2 ⟨rfl, hb2⟩
  have K2 := HK.out.stay hb2
  have b1 := K2.box (b := w.heap.size) (T := 42) (vs := rgtC 0 0 false false false) (by simp)
  have c0 := b1.cell 0 _ rfl
  have c1 := b1.cell 1 _ rfl
  have c2 := b1.cell 2 _ rfl
  have c3 := b1.cell 3 _ rfl
  have c4 := b1.cell 4 _ rfl
  have HK2 := Lib.hid K2
  clear HK K2 hb2 q0 q1 b1
  go_wp2_with fail
  refine (capOf_null _).mono ?_
  rintro e x3 ⟨rfl, hb3⟩
  have K3 := HK2.out.stay hb3
  have HK3 := Lib.hid K3
  have ta := taNN
  clear HK2 K3 hb3 c0 c1 c2 c3 c4
  go_wp2
  go_ret
  exact ⟨rfl, (HK3.out.past _).1⟩

set_option maxHeartbeats 2000000 in
theorem implRIn_none (t v : Int) (r wr k : Bool) (h1 : okR t v r wr k = true) (hn : nullR t v r wr k = false) (w : World) :
    Calls Tryz.prog 26 #[rgt t v r wr k, rgt 0 0 false false false] w fun e w' => e = .returned (.bool false) ∧ Below w.heap.size w w' := by
  have K0 := Kn.two w 42 (rgtC t v r wr k) (rgtC 0 0 false false false)
  have H1 := Lib.hid h1
  have HN := Lib.hid hn
  clear h1 hn
  go_enter Tryz.func26, Tryz.ntmps26
  go_wp2_with fail
  refine (implROk_val H1.out _).mono ?_
  rintro e x1 ⟨rfl, hb1⟩
  have K1 := K0.stay hb1
  have HK := Lib.hid K1
  obtain ⟨q0, q1⟩ := bcell hb1
  clear K0 hb1 K1
  go_wp2_with fail
  refine (implROk_null _).mono ?_
  rintro e x2 ⟨rfl, hb2⟩
  have K2 := HK.out.stay hb2
  have b1 := K2.box (b := w.heap.size) (T := 42) (vs := rgtC t v r wr k) (by simp)
  have c0 := b1.cell 0 _ rfl
  have c1 := b1.cell 1 _ rfl
  have c2 := b1.cell 2 _ rfl
  have c3 := b1.cell 3 _ rfl
  have c4 := b1.cell 4 _ rfl
  have HK2 := Lib.hid K2
  clear HK K2 hb2 q0 q1 b1
  go_wp2_with fail
  refine (capOf_some t v r wr k HN.out _).mono ?_
  rintro e x3 ⟨rfl, hb3⟩
  have K3 := HK2.out.stay hb3
  have b2 := K3.box (b := w.heap.size + 1) (T := 42) (vs := rgtC 0 0 false false false) (by simp)
  have hz := b2.lt
  have d0 := b2.cell 0 _ rfl
  have d1 := b2.cell 1 _ rfl
  have d2 := b2.cell 2 _ rfl
  have d3 := b2.cell 3 _ rfl
  have d4 := b2.cell 4 _ rfl
  have HK3 := Lib.hid K3
  have ta := taGN t v r wr k
  have tb := taGG t v r wr k
  have tc := taNG
  clear HK2 K3 hb3 c0 c1 c2 c3 c4 b2
  go_wp2_with fail
  refine (capOf_null _).mono ?_
  rintro e x4 ⟨rfl, hb4⟩
  have K4 := (HK3.out.new 85 (rgtC t v r wr k)).stay hb4
  clear hb4 HK3 d0 d1 d2 d3 d4
  go_wp2
  go_ret
  exact ⟨rfl, (K4.past _).1⟩

set_option maxHeartbeats 2000000 in
theorem implRIn_some (t v : Int) (r wr k : Bool) (t2 v2 : Int) (r2 wr2 k2 : Bool) (h1 : okR t v r wr k = true) (hn : nullR t v r wr k = false) (h2 : okR t2 v2 r2 wr2 k2 = true) (hn2 : nullR t2 v2 r2 wr2 k2 = false) (w : World) :
    Calls Tryz.prog 26 #[rgt t v r wr k, rgt t2 v2 r2 wr2 k2] w fun e w' => e = .returned (.bool (inG t v r wr k t2 v2 r2 wr2 k2)) ∧ Below w.heap.size w w' := by
  have K0 := Kn.two w 42 (rgtC t v r wr k) (rgtC t2 v2 r2 wr2 k2)
  have H1 := Lib.hid h1
  have HN := Lib.hid hn
  have H2 := Lib.hid h2
  have HN2 := Lib.hid hn2
  clear h1 hn h2 hn2
  go_enter Tryz.func26, Tryz.ntmps26
  go_wp2_with fail
  refine (implROk_val H1.out _).mono ?_
  rintro e x1 ⟨rfl, hb1⟩
  have K1 := K0.stay hb1
  have HK := Lib.hid K1
  obtain ⟨q0, q1⟩ := bcell hb1
  clear K0 hb1 K1
  go_wp2_with fail
  refine (implROk_val H2.out _).mono ?_
  rintro e x2 ⟨rfl, hb2⟩
  have K2 := HK.out.stay hb2
  have b1 := K2.box (b := w.heap.size) (T := 42) (vs := rgtC t v r wr k) (by simp)
  have c0 := b1.cell 0 _ rfl
  have c1 := b1.cell 1 _ rfl
  have c2 := b1.cell 2 _ rfl
  have c3 := b1.cell 3 _ rfl
  have c4 := b1.cell 4 _ rfl
  have HK2 := Lib.hid K2
  clear HK K2 hb2 q0 q1 b1
  go_wp2_with fail
  refine (capOf_some t v r wr k HN.out _).mono ?_
  rintro e x3 ⟨rfl, hb3⟩
  have K3 := HK2.out.stay hb3
  have b2 := K3.box (b := w.heap.size + 1) (T := 42) (vs := rgtC t2 v2 r2 wr2 k2) (by simp)
  have hz := b2.lt
  have d0 := b2.cell 0 _ rfl
  have d1 := b2.cell 1 _ rfl
  have d2 := b2.cell 2 _ rfl
  have d3 := b2.cell 3 _ rfl
  have d4 := b2.cell 4 _ rfl
  have HK3 := Lib.hid K3
  have ta := taGN t v r wr k
  have tb := taGG t v r wr k
  have tc := taGG t2 v2 r2 wr2 k2
  clear HK2 K3 hb3 c0 c1 c2 c3 c4 b2
  go_wp2_with fail
  refine (capOf_some t2 v2 r2 wr2 k2 HN2.out _).mono ?_
  rintro e x4 ⟨rfl, hb4⟩
  have K4 := (HK3.out.new 85 (rgtC t v r wr k)).stay hb4
  have b3 := K4.box (b := x3.heap.size) (T := 85) (vs := rgtC t v r wr k) (by simp)
  have hz4 := b3.lt
  have e0 := b3.cell 0 _ rfl
  have e1 := b3.cell 1 _ rfl
  have e2 := b3.cell 2 _ rfl
  have e3 := b3.cell 3 _ rfl
  have e4 := b3.cell 4 _ rfl
  have HK4 := Lib.hid (K4.past (.cells (rgtC t2 v2 r2 wr2 k2) 85))
  clear hb4 HK3 K4 b3 d0 d1 d2 d3 d4
  go_wp2_with fail
  refine (withinR_any t v r wr k t2 v2 r2 wr2 k2 _).mono ?_
  rintro e x5 ⟨rfl, hb5⟩
  have K5 := HK4.out.stay hb5
  clear hb5 HK4 e0 e1 e2 e3 e4
  go_wp2
  go_ret
  exact ⟨rfl, K5.1⟩

theorem implRIn_any (t v : Int) (r wr k : Bool) (t2 v2 : Int) (r2 wr2 k2 : Bool) (w : World) :
    Calls Tryz.prog 26 #[rgt t v r wr k, rgt t2 v2 r2 wr2 k2] w fun e w' => e = .returned (.bool (inB t v r wr k t2 v2 r2 wr2 k2)) ∧ Below w.heap.size w w' := by
  cases h1 : okR t v r wr k
  · rw [show inB t v r wr k t2 v2 r2 wr2 k2 = false by simp [inB, h1]]
    exact implRIn_bad1 t v r wr k t2 v2 r2 wr2 k2 h1 w
  cases h2 : okR t2 v2 r2 wr2 k2
  · rw [show inB t v r wr k t2 v2 r2 wr2 k2 = false by simp [inB, h2]]
    exact implRIn_bad2 t v r wr k t2 v2 r2 wr2 k2 h1 h2 w
  cases hn : nullR t v r wr k
  · have ht : ¬ t = 0 := by
      rintro rfl
      rw [okR_nonull hn] at h1
      simp [okG, inR] at h1
    cases hn2 : nullR t2 v2 r2 wr2 k2
    · rw [show inB t v r wr k t2 v2 r2 wr2 k2 = inG t v r wr k t2 v2 r2 wr2 k2 by simp [inB, h1, h2, inRgt, inG, ht, Bool.or_comm k]]
      exact implRIn_some t v r wr k t2 v2 r2 wr2 k2 h1 hn h2 hn2 w
    · obtain ⟨rfl, rfl, rfl, rfl, rfl⟩ := nullR_zero hn2
      rw [show inB t v r wr k 0 0 false false false = false by simp [inB, inRgt, ht]]
      exact implRIn_none t v r wr k h1 hn w
  · obtain ⟨rfl, rfl, rfl, rfl, rfl⟩ := nullR_zero hn
    rw [show inB 0 0 false false false t2 v2 r2 wr2 k2 = true by simp [inB, h1, h2, inRgt]]
    exact implRIn_null t2 v2 r2 wr2 k2 h2 w
theorem implRIn_val {t v : Int} {r wr k : Bool} {t2 v2 : Int} {r2 wr2 k2 b : Bool} (h : inB t v r wr k t2 v2 r2 wr2 k2 = b) (w : World) :
    Calls Tryz.prog 26 #[rgt t v r wr k, rgt t2 v2 r2 wr2 k2] w fun e w' => e = .returned (.bool b) ∧ Below w.heap.size w w' := by
  subst h; exact implRIn_any t v r wr k t2 v2 r2 wr2 k2 w
end Go.Proofs.YtgpiclngkmjnpaaGreatDoor

namespace Go.Proofs.YtgpiclngkmjnpaaGreatDoor
open Go.RowKit
set_option linter.unusedVariables false

theorem lessV_some {t v : Int} {r wr k : Bool} (read write strong : Bool) (h : okR t v r wr k = true) (ht : ¬ t = 0) : lessV t v r wr k read write strong = rgt t v (r && read) (wr && (write && strong)) (k || !strong) := by
  have hg : lsG t v r wr k = true := by simp [lsG, h, ht]
  simp only [lessV, hg, lsA, Bool.true_and]; rfl
theorem lessV_null (read write strong : Bool) : lessV 0 0 false false false read write strong = rgt 0 0 false false false := rfl
theorem rgt_inj {t v : Int} {r wr k : Bool} {a1 a2 : Int} {b1 b2 b3 : Bool} (h : rgt t v r wr k = rgt a1 a2 b1 b2 b3) : t = a1 ∧ v = a2 ∧ r = b1 ∧ wr = b2 ∧ k = b3 := by
  simp only [rgt, Value.agg.injEq, Array.mk.injEq, List.cons.injEq, Value.int.injEq, Value.bool.injEq, and_true, true_and] at h
  obtain ⟨rfl, rfl, rfl, rfl, rfl⟩ := h
  exact ⟨rfl, rfl, rfl, rfl, rfl⟩
theorem okR_parts {t v : Int} {r wr k : Bool} (h : okR t v r wr k = true) (ht : ¬ t = 0) : inR t 1 8 = true ∧ inR v 0 5 = true ∧ (k && wr) = false := by
  simp only [okR, ht, if_false, Bool.and_eq_true, Bool.not_eq_true'] at h
  exact ⟨h.1, h.2.1, h.2.2⟩
theorem okR_mk {t v : Int} {r wr k : Bool} (ht : ¬ t = 0) (h1 : inR t 1 8 = true) (h2 : inR v 0 5 = true) (h3 : (k && wr) = false) : okR t v r wr k = true := by
  simp [okR, ht, h1, h2, h3]
theorem less_ok {t v : Int} {r wr k read write strong : Bool} {a1 a2 : Int} {b1 b2 b3 : Bool} (h : okR t v r wr k = true) (hl : lessV t v r wr k read write strong = rgt a1 a2 b1 b2 b3) : okR a1 a2 b1 b2 b3 = true := by
  by_cases ht : t = 0
  · subst ht
    obtain ⟨rfl, rfl, rfl, rfl⟩ := okR_null h
    obtain ⟨rfl, rfl, rfl, rfl, rfl⟩ := rgt_inj ((lessV_null read write strong).symm.trans hl)
    rfl
  · obtain ⟨rfl, rfl, rfl, rfl, rfl⟩ := rgt_inj ((lessV_some read write strong h ht).symm.trans hl)
    obtain ⟨p1, p2, p3⟩ := okR_parts h ht
    refine okR_mk ht p1 p2 ?_
    revert p3
    cases k <;> cases wr <;> cases write <;> cases strong <;> decide
theorem less_in {t v : Int} {r wr k read write strong : Bool} {a1 a2 : Int} {b1 b2 b3 : Bool} (h : okR t v r wr k = true) (hl : lessV t v r wr k read write strong = rgt a1 a2 b1 b2 b3) : inB a1 a2 b1 b2 b3 t v r wr k = true := by
  have ho := less_ok h hl
  by_cases ht : t = 0
  · subst ht
    obtain ⟨rfl, rfl, rfl, rfl⟩ := okR_null h
    obtain ⟨rfl, rfl, rfl, rfl, rfl⟩ := rgt_inj ((lessV_null read write strong).symm.trans hl)
    rfl
  · obtain ⟨rfl, rfl, rfl, rfl, rfl⟩ := rgt_inj ((lessV_some read write strong h ht).symm.trans hl)
    simp only [inB, h, ho, Bool.true_and, inRgt, beq_self_eq_true]
    cases r <;> cases wr <;> cases k <;> cases read <;> cases write <;> cases strong <;> simp
end Go.Proofs.YtgpiclngkmjnpaaGreatDoor
