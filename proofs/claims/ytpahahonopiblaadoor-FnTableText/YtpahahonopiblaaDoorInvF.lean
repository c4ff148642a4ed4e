/-
  A region that draws its order inside a fence, by a condition that every operation keeps.
-/
import Derived.Test.YtpahahonopiblaaDoorInv
import Derived.RangeFuncBox
import Derived.OrdersIn
namespace Go.Proofs.YtpahahonopiblaaDoor
open Go.RowKit
section
variable {F : Fence} {n : Nat} {P : Program} {ops : Array Oper} {Q : Exit → Act → World → Prop}

/-- ONE STEP AN OPERATION. -/
theorem wpIn_region_inv {id : Nat} {a : Act} {w : World} (hm : P.follows .mixedOrders = true) (hbk : backward ops = true) (I : (Nat → Bool) → Act → World → Prop)
    (h0 : I (fun _ => false) a w.drew)
    (hs : ∀ (L : Nat → Bool) (a : Act) (w : World) (i : Nat) (o : Oper), I L a w → ops[i]? = some o → L i = false → (∀ e ∈ o.after, Region.binds .any e = true → L e.on = true) →
      ∀ K : Act → World → Prop, (∀ a w, I (fun k => if k = i then true else L k) a w → K a w) → if Region.wanted o (yielded ops a.tmps) = true then Oper.wpIn F n P o a w K Q else (∀ f, o.about P w a.eval = some f → F.fn f) ∧ K (a.put o.dst undef) w)
    (hf : ∀ (L : Nat → Bool) (a : Act) (w : World), I L a w → (∀ i, i < ops.size → L i = true) → Q .normal a w) : (Code.region id ops true).wpIn F n P Q a w := by
  refine wpIn_region_any hm ?_
  have key : ∀ (fuel : Nat) (listed : Array Bool) (a : Act) (w : World), listed.size = ops.size → unlisted listed ≤ fuel → I (fun j => listed.getD j false) a w → wpAnyIn F n P .any ops Q fuel listed a w := by
    intro fuel
    induction fuel with
    | zero =>
      intro listed a w hz hu hI
      have hr : Region.ready .any ops listed = [] := by
        cases hr : Region.ready .any ops listed with
        | nil => rfl
        | cons i rs =>
          have hm : i ∈ Region.ready .any ops listed := by rw [hr]; exact List.mem_cons_self
          have := unlisted_set (mem_ready.1 hm).1
          omega
      exact ⟨hr, hf _ _ _ hI (fun i hi => ready_nil hbk hz hr i hi)⟩
    | succ fuel ih =>
      intro listed a w hz hu hI
      refine ⟨fun hr => hf _ _ _ hI (fun i hi => ready_nil hbk hz hr i hi), fun i hi => ?_⟩
      obtain ⟨hl, o, ho, hdep⟩ := mem_ready.1 hi
      have hlt : i < listed.size := by
        rcases Nat.lt_or_ge i listed.size with h1 | h1
        · exact h1
        · simp [Array.getD, Nat.not_lt.2 h1] at hl
      have hl' : listed.getD i false = false := by simpa [Array.getD, hlt] using hl
      refine wpOpIn_step ho (fun K' hK => hs (fun j => listed.getD j false) a w i o hI ho hl' hdep K' (fun a' w' hI' => hK a' w' (ih _ a' w' ?_ ?_ ?_)))
      · simpa using hz
      · have := unlisted_set hl
        omega
      · have he : (fun k => if k = i then true else listed.getD k false) = (fun j => (listed.setIfInBounds i true).getD j false) := by
          funext k
          by_cases hk : k = i
          · subst hk
            simp [Array.getD, hlt]
          · rw [if_neg hk, getD_set_ne false (fun e => hk e.symm)]
        rw [← he]
        exact hI'
  refine key ops.size _ a _ (by simp) ?_ ?_
  · unfold unlisted
    exact Nat.le_trans List.countP_le_length (by simp)
  · have he : (fun j => (Array.replicate ops.size false).getD j false) = (fun _ => false) := by
      funext k
      by_cases hk : k < ops.size
      · simp [Array.getD, hk]
      · simp [Array.getD, hk]
    rw [he]
    exact h0

/-- One step for each operation of a list, from number i on. -/
def StepsIn (F : Fence) (n : Nat) (P : Program) (ops : Array Oper) (Q : Exit → Act → World → Prop) (I : (Nat → Bool) → Act → World → Prop) (i : Nat) : List Oper → Prop
  | [] => True
  | o :: rest => (∀ (L : Nat → Bool) (a : Act) (w : World), I L a w → L i = false → (o.after.toList.all fun e => L e.on) = true →
      ∀ K : Act → World → Prop, Hid (∀ a w, I (upd L i) a w → K a w) → if Region.wanted o (yielded ops a.tmps) = true then Oper.wpIn F n P o a w K Q else (∀ f, o.about P w a.eval = some f → F.fn f) ∧ K (a.put o.dst undef) w) ∧ StepsIn F n P ops Q I (i + 1) rest

theorem StepsIn.get {I : (Nat → Bool) → Act → World → Prop} : ∀ (l : List Oper) (i j : Nat) (o : Oper), StepsIn F n P ops Q I i l → l[j]? = some o →
    ∀ (L : Nat → Bool) (a : Act) (w : World), I L a w → L (i + j) = false → (o.after.toList.all fun e => L e.on) = true →
      ∀ K : Act → World → Prop, Hid (∀ a w, I (upd L (i + j)) a w → K a w) → if Region.wanted o (yielded ops a.tmps) = true then Oper.wpIn F n P o a w K Q else (∀ f, o.about P w a.eval = some f → F.fn f) ∧ K (a.put o.dst undef) w := by
  intro l
  induction l with
  | nil => intro i j o _ h; simp at h
  | cons x rest ih =>
    intro i j o hS h
    cases j with
    | zero =>
      simp at h
      subst h
      simpa using hS.1
    | succ j =>
      simp at h
      have := ih (i + 1) j o hS.2 h
      have e : i + 1 + j = i + (j + 1) := by omega
      rw [e] at this
      exact this

/-- A REGION, ONE STEP AN OPERATION. -/
theorem wpIn_region_steps {id : Nat} {a : Act} {w : World} (hm : P.follows .mixedOrders = true) (hbk : backward ops = true) (hpl : plain ops = true) (I : (Nat → Bool) → Act → World → Prop)
    (h0 : I (fun _ => false) a w.drew) (hs : StepsIn F n P ops Q I 0 ops.toList)
    (hf : ∀ (L : Nat → Bool) (a : Act) (w : World), I L a w → (∀ i, i < ops.size → L i = true) → Q .normal a w) : (Code.region id ops true).wpIn F n P Q a w := by
  refine wpIn_region_inv hm hbk I h0 (fun L a w i o hI ho hL hdep K hK => ?_) hf
  have hoL : ops.toList[i]? = some o := by simpa using ho
  have := StepsIn.get ops.toList 0 i o hs hoL L a w hI (by simpa using hL) ?_ K (by rw [Nat.zero_add]; exact hK)
  · exact this
  · rw [List.all_eq_true]
    intro e he
    refine hdep e (by simpa using he) ?_
    have h1 := Array.all_eq_true_iff_forall_mem.1 hpl o (Array.mem_of_getElem? ho)
    exact Array.all_eq_true_iff_forall_mem.1 h1 e (by simpa using he)
end
end Go.Proofs.YtpahahonopiblaaDoor
