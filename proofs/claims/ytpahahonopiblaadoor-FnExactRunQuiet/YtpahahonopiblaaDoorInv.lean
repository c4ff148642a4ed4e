/-
  A region that draws its order, by a condition that every operation keeps: one step an operation, whatever the order.
-/
import Derived.Test.YtpahahonopiblaaDoorBase
namespace Go.Proofs.YtpahahonopiblaaDoor
open Go.RowKit

section
variable {P : Program} {ops : Array Oper} {Q : Exit → Act → World → Prop}

/-- Every operation waits only for earlier ones. -/
def backward (ops : Array Oper) : Bool := (List.range ops.size).all fun i => ((ops[i]?).map (·.after.all fun e => decide (e.on < i))).getD true

theorem ready_nil {listed : Array Bool} (hb : backward ops = true) (hz : listed.size = ops.size) (hr : Region.ready .any ops listed = []) : ∀ i, i < ops.size → listed.getD i false = true := by
  intro i
  induction i using Nat.strongRecOn with
  | _ i ih =>
    intro hi
    cases hl : listed.getD i false with
    | true => rfl
    | false =>
      exfalso
      obtain ⟨o, ho⟩ : ∃ o, ops[i]? = some o := ⟨ops[i], Array.getElem?_eq_getElem hi⟩
      have hmem : i ∈ Region.ready .any ops listed := by
        refine mem_ready.2 ⟨?_, o, ho, fun e he _ => ?_⟩
        · have hlt : i < listed.size := by omega
          simp [Array.getD, hlt] at hl ⊢
          exact hl
        · have := List.all_eq_true.1 hb i (List.mem_range.2 hi)
          rw [ho] at this
          simp only [Option.map_some, Option.getD_some, Array.all_eq_true_iff_forall_mem, decide_eq_true_eq] at this
          have hlt := this e he
          exact ih e.on hlt (by omega)
      rw [hr] at hmem
      cases hmem

/-- How many have not come up. -/
def unlisted (listed : Array Bool) : Nat := listed.toList.countP (fun b => !b)

theorem unlisted_set {listed : Array Bool} {i : Nat} (h : listed.getD i true = false) : unlisted (listed.setIfInBounds i true) + 1 = unlisted listed := by
  have hlt : i < listed.size := by
    rcases Nat.lt_or_ge i listed.size with h1 | h1
    · exact h1
    · simp [Array.getD, Nat.not_lt.2 h1] at h
  have hv : listed.toList[i]'(by simpa using hlt) = false := by simpa [Array.getD, hlt] using h
  unfold unlisted
  rw [Array.toList_setIfInBounds]
  have e1 := List.take_append_drop i listed.toList
  have hd : listed.toList.drop i = false :: listed.toList.drop (i + 1) := by
    rw [List.drop_eq_getElem_cons (by simpa using hlt), hv]
  rw [List.set_eq_take_append_cons_drop, if_pos (by simpa using hlt)]
  conv => rhs; rw [← e1, hd]
  simp [List.countP_append]
  omega

/-- ONE STEP AN OPERATION. -/
theorem wp_region_inv {id : Nat} {a : Act} {w : World} (hm : P.follows .mixedOrders = true) (hbk : backward ops = true) (I : (Nat → Bool) → Act → World → Prop)
    (h0 : I (fun _ => false) a w.drew)
    (hs : ∀ (L : Nat → Bool) (a : Act) (w : World) (i : Nat) (o : Oper), I L a w → ops[i]? = some o → L i = false → (∀ e ∈ o.after, Region.binds .any e = true → L e.on = true) →
      ∀ K : Act → World → Prop, (∀ a w, I (fun k => if k = i then true else L k) a w → K a w) → if Region.wanted o (yielded ops a.tmps) = true then Oper.wp P o a w K Q else K (a.put o.dst undef) w)
    (hf : ∀ (L : Nat → Bool) (a : Act) (w : World), I L a w → (∀ i, i < ops.size → L i = true) → Q .normal a w) : (Code.region id ops true).wp P Q a w := by
  refine wp_region_any hm ?_
  have key : ∀ (fuel : Nat) (listed : Array Bool) (a : Act) (w : World), listed.size = ops.size → unlisted listed ≤ fuel → I (fun j => listed.getD j false) a w → wpAny P .any ops Q fuel listed a w := by
    intro fuel
    induction fuel with
    | zero =>
      intro listed a w hz hu hI
      have hr : Region.ready .any ops listed = [] := by
        cases hr : Region.ready .any ops listed with
        | nil => rfl
        | cons i rs =>
          have hm : i ∈ Region.ready .any ops listed := by rw [hr]; exact List.mem_cons_self
          have := unlisted_set (mem_ready.1 hm).1
          omega
      exact ⟨hr, hf _ _ _ hI (fun i hi => ready_nil hbk hz hr i hi)⟩
    | succ fuel ih =>
      intro listed a w hz hu hI
      refine ⟨fun hr => hf _ _ _ hI (fun i hi => ready_nil hbk hz hr i hi), fun i hi => ?_⟩
      obtain ⟨hl, o, ho, hdep⟩ := mem_ready.1 hi
      have hlt : i < listed.size := by
        rcases Nat.lt_or_ge i listed.size with h1 | h1
        · exact h1
        · simp [Array.getD, Nat.not_lt.2 h1] at hl
      have hl' : listed.getD i false = false := by simpa [Array.getD, hlt] using hl
      refine wpOp_step ho (fun K' hK => hs (fun j => listed.getD j false) a w i o hI ho hl' hdep K' (fun a' w' hI' => hK a' w' (ih _ a' w' ?_ ?_ ?_)))
      · simpa using hz
      · have := unlisted_set hl
        omega
      · have he : (fun k => if k = i then true else listed.getD k false) = (fun j => (listed.setIfInBounds i true).getD j false) := by
          funext k
          by_cases hk : k = i
          · subst hk
            simp [Array.getD, hlt]
          · rw [if_neg hk, getD_set_ne false (fun e => hk e.symm)]
        rw [← he]
        exact hI'
  refine key ops.size _ a _ (by simp) ?_ ?_
  · unfold unlisted
    exact Nat.le_trans List.countP_le_length (by simp)
  · have he : (fun j => (Array.replicate ops.size false).getD j false) = (fun _ => false) := by
      funext k
      by_cases hk : k < ops.size
      · simp [Array.getD, hk]
      · simp [Array.getD, hk]
    rw [he]
    exact h0

/-- What has come up, and one more. -/
def upd (L : Nat → Bool) (i : Nat) : Nat → Bool := fun k => if k = i then true else L k
theorem upd_self (L : Nat → Bool) (i : Nat) : upd L i i = true := by simp [upd]
theorem upd_ne {L : Nat → Bool} {i k : Nat} (h : k ≠ i) : upd L i k = L k := by simp [upd, h]

/-- One step for each operation of a list, from number i on. -/
def Steps (P : Program) (ops : Array Oper) (Q : Exit → Act → World → Prop) (I : (Nat → Bool) → Act → World → Prop) (i : Nat) : List Oper → Prop
  | [] => True
  | o :: rest => (∀ (L : Nat → Bool) (a : Act) (w : World), I L a w → L i = false → (o.after.toList.all fun e => L e.on) = true →
      ∀ K : Act → World → Prop, Hid (∀ a w, I (upd L i) a w → K a w) → if Region.wanted o (yielded ops a.tmps) = true then Oper.wp P o a w K Q else K (a.put o.dst undef) w) ∧ Steps P ops Q I (i + 1) rest

theorem Steps.get {I : (Nat → Bool) → Act → World → Prop} : ∀ (l : List Oper) (i j : Nat) (o : Oper), Steps P ops Q I i l → l[j]? = some o →
    ∀ (L : Nat → Bool) (a : Act) (w : World), I L a w → L (i + j) = false → (o.after.toList.all fun e => L e.on) = true →
      ∀ K : Act → World → Prop, Hid (∀ a w, I (upd L (i + j)) a w → K a w) → if Region.wanted o (yielded ops a.tmps) = true then Oper.wp P o a w K Q else K (a.put o.dst undef) w := by
  intro l
  induction l with
  | nil => intro i j o _ h; simp at h
  | cons x rest ih =>
    intro i j o hS h
    cases j with
    | zero =>
      simp at h
      subst h
      simpa using hS.1
    | succ j =>
      simp at h
      have := ih (i + 1) j o hS.2 h
      have e : i + 1 + j = i + (j + 1) := by omega
      rw [e] at this
      exact this

/-- No edge is one that only some orders keep. -/
def plain (ops : Array Oper) : Bool := ops.all fun o => o.after.all fun e => Region.binds .any e

/-- A REGION, ONE STEP AN OPERATION. -/
theorem wp_region_steps {id : Nat} {a : Act} {w : World} (hm : P.follows .mixedOrders = true) (hbk : backward ops = true) (hpl : plain ops = true) (I : (Nat → Bool) → Act → World → Prop)
    (h0 : I (fun _ => false) a w.drew) (hs : Steps P ops Q I 0 ops.toList)
    (hf : ∀ (L : Nat → Bool) (a : Act) (w : World), I L a w → (∀ i, i < ops.size → L i = true) → Q .normal a w) : (Code.region id ops true).wp P Q a w := by
  refine wp_region_inv hm hbk I h0 (fun L a w i o hI ho hL hdep K hK => ?_) hf
  have hoL : ops.toList[i]? = some o := by simpa using ho
  have := Steps.get ops.toList 0 i o hs hoL L a w hI (by simpa using hL) ?_ K (by rw [Nat.zero_add]; exact hK)
  · exact this
  · rw [List.all_eq_true]
    intro e he
    refine hdep e (by simpa using he) ?_
    have h1 := Array.all_eq_true_iff_forall_mem.1 hpl o (Array.mem_of_getElem? ho)
    exact Array.all_eq_true_iff_forall_mem.1 h1 e (by simpa using he)
end
end Go.Proofs.YtpahahonopiblaaDoor
