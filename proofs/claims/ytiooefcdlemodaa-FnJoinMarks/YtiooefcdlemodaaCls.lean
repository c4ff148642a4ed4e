/-
  Worlds in which some labels lie in blocks of the call's own and nothing that was there has turned; a drawn region walked once in such a class of worlds.
-/
import Derived.Test.YtiooefcdlemodaaLabE
import Derived.Deep.QuietTactic
import Derived.BigQuiet
namespace Go.Proofs.Ytiooefcdlemodaa
open Go.RowKit
set_option linter.unusedVariables false

theorem laid2 {w x : World} (h : Below w.heap.size w x) (o1 o2 : Obj) : Below w.heap.size w ((x.alloc o1).alloc o2) :=
  (h.alloc h.size o1).alloc (by have := h.size; simp; omega) o2
theorem laid1 {w x : World} (h : Below w.heap.size w x) (o1 : Obj) : Below w.heap.size w (x.alloc o1) := h.alloc h.size o1
theorem going {w x y : World} (h : Below w.heap.size w x) (hb : Below x.heap.size x y) : Below w.heap.size w y := h.trans (hb.mono h.size)

/-- A world of a class. -/
structure Wd (D : World → Prop) where
  w : World
  ok : D w
/-- A callee that only makes memory, in a class of worlds that such callees keep. -/
theorem inCls {P : Program} {f : FuncId} {args : Array Value} {D : World → Prop} (hst : ∀ {x y : World}, D x → Below x.heap.size x y → D y) {t : Wd D} {v : Value}
    (h : Calls P f args t.w fun e y => e = .returned v ∧ Below t.w.heap.size t.w y) : Calls P f args t.w fun e y => e = .returned v ∧ ∃ m : Wd D, y = m.w :=
  h.mono fun _ y ⟨he, hb⟩ => ⟨he, ⟨y, hst t.ok hb⟩, rfl⟩
/-- A callee that leaves the world alone. -/
theorem inClsSame {P : Program} {f : FuncId} {args : Array Value} {D : World → Prop} {t : Wd D} {v : Value}
    (h : Calls P f args t.w fun e y => e = .returned v ∧ t.w = y) : Calls P f args t.w fun e y => e = .returned v ∧ ∃ m : Wd D, y = m.w :=
  h.mono fun _ y ⟨he, hb⟩ => ⟨he, t, hb.symm⟩

/-- Each of these labels lies in its block. -/
def Lbs (x : World) (L : List (Nat × Int × Int)) : Prop := ∀ t ∈ L, Box x t.1 24 #[.int .i64 t.2.1, .int .i64 t.2.2]
def ClsL (w : World) (L : List (Nat × Int × Int)) (x : World) : Prop := Below w.heap.size w x ∧ Lbs x L
section
variable {w x y : World} {L : List (Nat × Int × Int)}
theorem ClsL.start (h : Below w.heap.size w x) : ClsL w [] x := ⟨h, fun _ h => by cases h⟩
theorem ClsL.stay (h : ClsL w L x) (hb : Below x.heap.size x y) : ClsL w L y := ⟨going h.1 hb, fun t ht => (h.2 t ht).stay hb⟩
theorem ClsL.drew (h : ClsL w L x) : ClsL w L x.drew := ⟨h.1.drew, fun t ht => (h.2 t ht).drew⟩
theorem ClsL.drewN (h : ClsL w L x) (n : Nat) : ClsL w L (x.drewN n) := ⟨⟨h.1.os, h.1.tape, h.1.output, h.1.size, h.1.block⟩, fun t ht => (h.2 t ht).drewN n⟩
theorem ClsL.past (h : ClsL w L x) (o : Obj) : ClsL w L (x.alloc o) := ⟨laid1 h.1 o, fun t ht => (h.2 t ht).past o⟩
theorem ClsL.new (h : ClsL w L x) (s v : Int) : ClsL w ((x.heap.size, s, v) :: L) (x.alloc (.cells #[.int .i64 s, .int .i64 v] 24)) :=
  ⟨laid1 h.1 _, fun t ht => by
    rcases List.mem_cons.1 ht with rfl | ht
    · exact Box.fresh _ _ _
    · exact (h.2 t ht).past _⟩
theorem ClsL.new2 (h : ClsL w L x) (s v s2 v2 : Int) : ClsL w ((x.heap.size, s, v) :: (x.heap.size + 1, s2, v2) :: L) ((x.alloc (.cells #[.int .i64 s, .int .i64 v] 24)).alloc (.cells #[.int .i64 s2, .int .i64 v2] 24)) := by
  have h1 := h.new s v
  have h2 := h1.new s2 v2
  rw [show (x.alloc (.cells #[.int .i64 s, .int .i64 v] 24)).heap.size = x.heap.size + 1 by simp] at h2
  refine ⟨h2.1, fun t ht => h2.2 t ?_⟩
  rcases List.mem_cons.1 ht with rfl | ht
  · exact List.mem_cons_of_mem _ List.mem_cons_self
  · rcases List.mem_cons.1 ht with rfl | ht
    · exact List.mem_cons_self
    · exact List.mem_cons_of_mem _ (List.mem_cons_of_mem _ ht)
theorem ClsL.c0 (h : ClsL w L x) {b : Nat} {s v : Int} (hm : (b, s, v) ∈ L) : x.cell? ⟨b, 0, none⟩ = some (.int .i64 s) := (h.2 _ hm).cell 0 _ rfl
theorem ClsL.c1 (h : ClsL w L x) {b : Nat} {s v : Int} (hm : (b, s, v) ∈ L) : x.cell? ⟨b, 1, none⟩ = some (.int .i64 v) := (h.2 _ hm).cell 1 _ rfl
end

theorem implOk_val {s v : Int} {b : Bool} (h : okL s v = b) (w : World) : Calls Try.prog 24 #[lab s v] w fun e w' => e = .returned (.bool b) ∧ Below w.heap.size w w' := by
  subst h; exact implOk_any s v w
theorem specOk_val {s v : Int} {b : Bool} (h : okL s v = b) (w : World) : Calls Try.prog 15 #[lab s v] w fun e w' => e = .returned (.bool b) ∧ Below w.heap.size w w' := by
  subst h; exact specOk_any s v w
theorem implFlow_val {s v s2 v2 : Int} {b : Bool} (h : flow s v s2 v2 = b) (w : World) : Calls Try.prog 13 #[lab s v, lab s2 v2] w fun e w' => e = .returned (.bool b) ∧ Below w.heap.size w w' := by
  subst h; exact implFlow_any s v s2 v2 w
theorem specFlow_val {s v s2 v2 : Int} {b : Bool} (h : flow s v s2 v2 = b) (w : World) : Calls Try.prog 14 #[lab s v, lab s2 v2] w fun e w' => e = .returned (.bool b) ∧ Below w.heap.size w w' := by
  subst h; exact specFlow_any s v s2 v2 w
theorem implJoin_val {s v s2 v2 a b : Int} (h1 : jn1 s v s2 v2 = a) (h2 : jn2 s v s2 v2 = b) (w : World) : Calls Try.prog 18 #[lab s v, lab s2 v2] w fun e w' => e = .returned (lab a b) ∧ Below w.heap.size w w' := by
  subst h1 h2; exact implJoin_any s v s2 v2 w
theorem specJoin_val {s v s2 v2 a b : Int} (h1 : jn1 s v s2 v2 = a) (h2 : jn2 s v s2 v2 = b) (w : World) : Calls Try.prog 19 #[lab s v, lab s2 v2] w fun e w' => e = .returned (lab a b) ∧ Below w.heap.size w w' := by
  subst h1 h2; exact specJoin_any s v s2 v2 w
theorem implMeet_val {s v s2 v2 a b : Int} (h1 : mt1 s v s2 v2 = a) (h2 : mt2 s v s2 v2 = b) (w : World) : Calls Try.prog 21 #[lab s v, lab s2 v2] w fun e w' => e = .returned (lab a b) ∧ Below w.heap.size w w' := by
  subst h1 h2; exact implMeet_any s v s2 v2 w
theorem specMeet_val {s v s2 v2 a b : Int} (h1 : mt1 s v s2 v2 = a) (h2 : mt2 s v s2 v2 = b) (w : World) : Calls Try.prog 22 #[lab s v, lab s2 v2] w fun e w' => e = .returned (lab a b) ∧ Below w.heap.size w w' := by
  subst h1 h2; exact specMeet_any s v s2 v2 w

set_option maxHeartbeats 400000 in
theorem ldLabel_any (n : Nat) (w : World) (hn : n ≤ maxLen) :
    Calls Try.prog 16 #[.int .i64 n] w fun e w' => e = .returned (lab ((n : Int) % 4) ((n : Int) / 4 % 4)) ∧ Below w.heap.size w w' := by
  unfold maxLen at hn
  go_enter Try.func16, Try.ntmps16
  go_wp2
  refine bodyPost_ret (v := lab ((n : Int) % 4) ((n : Int) / 4 % 4)) (by simp [results, Try.results16, go_sem]) rfl ⟨rfl, ?_⟩
  exact (Below.refl _ _).alloc (Nat.le_refl _) _

theorem okL_split {s v : Int} (h : okL s v = true) : (0 ≤ s ∧ s ≤ 3) ∧ 0 ≤ v ∧ v ≤ 3 := by
  simp [okL, okN] at h; exact h
theorem okL_of {s v : Int} (h1 : 0 ≤ s) (h2 : s ≤ 3) (h3 : 0 ≤ v) (h4 : v ≤ 3) : okL s v = true := by simp [okL, okN]; omega
theorem flow_eq {s v s2 v2 : Int} (h1 : okL s v = true) (h2 : okL s2 v2 = true) : flow s v s2 v2 = (sub2 s s2 && sub2 v2 v) := by simp [flow, h1, h2]
theorem flow_refl {s v : Int} (h : okL s v = true) : flow s v s v = true := by
  rw [flow_eq h h]; simp [sub2]
theorem flow_trans {s v s2 v2 s3 v3 : Int} (h1 : okL s v = true) (h2 : okL s2 v2 = true) (h3 : okL s3 v3 = true) (h : flow s v s2 v2 = true) (k : flow s2 v2 s3 v3 = true) : flow s v s3 v3 = true := by
  rw [flow_eq h1 h2] at h; rw [flow_eq h2 h3] at k; rw [flow_eq h1 h3]
  simp [sub2] at h k ⊢; omega
theorem flow_anti {s v s2 v2 : Int} (h1 : okL s v = true) (h2 : okL s2 v2 = true) : (flow s v s2 v2 && flow s2 v2 s v) = (s == s2 && v == v2) := by
  rw [flow_eq h1 h2, flow_eq h2 h1]
  have a := okL_split h1
  have b := okL_split h2
  rw [Bool.eq_iff_iff]; simp [sub2]; omega
theorem flow_low {s v : Int} (h : okL s v = true) : flow 0 3 s v = true := by
  rw [flow_eq rfl h]
  have a := okL_split h
  simp [sub2]; omega
theorem flow_high {s v : Int} (h : okL s v = true) : flow s v 3 0 = true := by
  rw [flow_eq h rfl]
  have a := okL_split h
  simp [sub2]; omega
theorem join_eq {s v s2 v2 : Int} (h1 : okL s v = true) (h2 : okL s2 v2 = true) : jn1 s v s2 v2 = or2 s s2 ∧ jn2 s v s2 v2 = and2 v v2 := by simp [jn1, jn2, h1, h2]
theorem meet_eq {s v s2 v2 : Int} (h1 : okL s v = true) (h2 : okL s2 v2 = true) : mt1 s v s2 v2 = and2 s s2 ∧ mt2 s v s2 v2 = or2 v v2 := by simp [mt1, mt2, h1, h2]
theorem join_ok {s v s2 v2 : Int} (h1 : okL s v = true) (h2 : okL s2 v2 = true) : okL (or2 s s2) (and2 v v2) = true := by
  have := okN_or (okL1 h1) (okL1 h2); have := okN_and (okL2 h1) (okL2 h2); simp [okL, *]
theorem meet_ok {s v s2 v2 : Int} (h1 : okL s v = true) (h2 : okL s2 v2 = true) : okL (and2 s s2) (or2 v v2) = true := by
  have := okN_and (okL1 h1) (okL1 h2); have := okN_or (okL2 h1) (okL2 h2); simp [okL, *]

/-- The join is the least upper bound, the meet the greatest lower bound. -/
theorem join_up {s v s2 v2 : Int} (h1 : okL s v = true) (h2 : okL s2 v2 = true) : flow s v (or2 s s2) (and2 v v2) = true ∧ flow s2 v2 (or2 s s2) (and2 v v2) = true := by
  rw [flow_eq h1 (join_ok h1 h2), flow_eq h2 (join_ok h1 h2)]
  obtain ⟨a1, a2⟩ := okL_split h1
  obtain ⟨b1, b2⟩ := okL_split h2
  simp [sub2, or2, and2]; omega
theorem meet_down {s v s2 v2 : Int} (h1 : okL s v = true) (h2 : okL s2 v2 = true) : flow (and2 s s2) (or2 v v2) s v = true ∧ flow (and2 s s2) (or2 v v2) s2 v2 = true := by
  rw [flow_eq (meet_ok h1 h2) h1, flow_eq (meet_ok h1 h2) h2]
  obtain ⟨a1, a2⟩ := okL_split h1
  obtain ⟨b1, b2⟩ := okL_split h2
  simp [sub2, or2, and2]; omega
theorem join_least {s v s2 v2 s3 v3 : Int} (h1 : okL s v = true) (h2 : okL s2 v2 = true) (h3 : okL s3 v3 = true) : flow (or2 s s2) (and2 v v2) s3 v3 = (flow s v s3 v3 && flow s2 v2 s3 v3) := by
  rw [flow_eq (join_ok h1 h2) h3, flow_eq h1 h3, flow_eq h2 h3]
  obtain ⟨a1, a2⟩ := okL_split h1
  obtain ⟨b1, b2⟩ := okL_split h2
  obtain ⟨c1, c2⟩ := okL_split h3
  rw [Bool.eq_iff_iff]; simp [sub2, or2, and2]; omega
theorem meet_most {s v s2 v2 s3 v3 : Int} (h1 : okL s v = true) (h2 : okL s2 v2 = true) (h3 : okL s3 v3 = true) : flow s3 v3 (and2 s s2) (or2 v v2) = (flow s3 v3 s v && flow s3 v3 s2 v2) := by
  rw [flow_eq h3 (meet_ok h1 h2), flow_eq h3 h1, flow_eq h3 h2]
  obtain ⟨a1, a2⟩ := okL_split h1
  obtain ⟨b1, b2⟩ := okL_split h2
  obtain ⟨c1, c2⟩ := okL_split h3
  rw [Bool.eq_iff_iff]; simp [sub2, or2, and2]; omega
theorem or2_comm (a b : Int) : or2 a b = or2 b a := by simp [or2, Int.max_comm]
theorem and2_comm (a b : Int) : and2 a b = and2 b a := by simp [and2, Int.min_comm]
theorem or2_self {a : Int} (h : okN a = true) : or2 a a = a := by simp [okN] at h; simp [or2]; omega
theorem and2_self {a : Int} (h : okN a = true) : and2 a a = a := by simp [okN] at h; simp [and2]; omega
theorem or2_assoc {a b c : Int} (ha : okN a = true) (hb : okN b = true) (hc : okN c = true) : or2 (or2 a b) c = or2 a (or2 b c) := by
  simp [okN] at ha hb hc; simp [or2]; omega
theorem and2_assoc {a b c : Int} (ha : okN a = true) (hb : okN b = true) (hc : okN c = true) : and2 (and2 a b) c = and2 a (and2 b c) := by
  simp [okN] at ha hb hc; simp [and2]; omega
theorem and2_or2 {a b : Int} (ha : okN a = true) (hb : okN b = true) : and2 a (or2 a b) = a := by
  simp [okN] at ha hb; simp [and2, or2]; omega
theorem or2_and2 {a b : Int} (ha : okN a = true) (hb : okN b = true) : or2 a (and2 a b) = a := by
  simp [okN] at ha hb; simp [and2, or2]; omega
end Go.Proofs.Ytiooefcdlemodaa
