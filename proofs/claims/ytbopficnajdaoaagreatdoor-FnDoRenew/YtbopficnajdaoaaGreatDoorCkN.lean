/-
  Texts of ours as one: RigT, RigL, CkL.
-/
import Derived.Test.YtbopficnajdaoaaGreatDoorRigS
import Derived.Test.YtbopficnajdaoaaGreatDoorRigK
import Derived.Test.YtbopficnajdaoaaGreatDoorCkM
import Derived.Test.YtbopficnajdaoaaGreatDoorTaM
namespace Go.Proofs.YtbopficnajdaoaaGreatDoor
open Go.RowKit
set_option linter.unusedVariables false

/-- Both are ok, and one gives no more. -/
def inB (t v : Int) (r wr k : Bool) (t2 v2 : Int) (r2 wr2 k2 : Bool) : Bool := okR t v r wr k && (okR t2 v2 r2 wr2 k2 && inRgt t v r wr k t2 v2 r2 wr2 k2)
/-- Two boxes laid. -/
theorem Kn.two (w : World) (T : TypeId) (x1 x2 : Array Value) : Kn w [(w.heap.size, T, x1), (w.heap.size + 1, T, x2)] ((w.alloc (.cells x1 T)).alloc (.cells x2 T)) := by
  have h := ((Kn.refl (w := w)).new T x1).new T x2
  rw [show (w.alloc (.cells x1 T)).heap.size = w.heap.size + 1 by simp] at h
  exact h.less (by simp)


set_option maxHeartbeats 2000000 in
theorem l2Less_some (t v : Int) (r wr k read write strong : Bool) (w : World) (ht : ¬ t = 0) :
    Calls Tryz.prog 61 #[rgt t v r wr k, .bool read, .bool write, .bool strong] w fun e w' => e = .returned (rgt t v (r && read) (wr && (write && strong)) (k || !strong)) ∧ Below w.heap.size w w' := by
  have ht' : (t == 0) = false := by simpa using ht
  clear ht
  cases r <;> rcases (show wr = false ∨ wr = true ∧ write = false ∨ wr = true ∧ write = true by cases wr <;> cases write <;> simp) with rfl | ⟨rfl, rfl⟩ | ⟨rfl, rfl⟩ <;> cases k
  all_goals
    go_enter Tryz.func61, Tryz.ntmps61
    go_wp2
    refine bodyPost_ret (v := rgt t v _ _ _) (by simp [results, Tryz.results61, go_sem]) rfl ⟨rfl, ?_⟩
    exact ((Below.refl _ _).alloc (Nat.le_refl _) _).alloc (by simp) _

/-- A right that can be lessened: ok, and to something. -/
def lsG (t v : Int) (r wr k : Bool) : Bool := okR t v r wr k && !(t == 0)
def lsA (g : Bool) (x : Int) : Int := if g then x else 0
/-- The lessened right; the zero value where there is none. -/
abbrev lessV (t v : Int) (r wr k read write strong : Bool) : Value := rgt (lsA (lsG t v r wr k) t) (lsA (lsG t v r wr k) v) (lsG t v r wr k && (r && read)) (lsG t v r wr k && (wr && (write && strong))) (lsG t v r wr k && (k || !strong))
end Go.Proofs.YtbopficnajdaoaaGreatDoor

namespace Go.Proofs.YtbopficnajdaoaaGreatDoor
open Go.RowKit
set_option linter.unusedVariables false

theorem mLessN (w : World) : (method 290 147 (.agg #[]) "loop.example/drawbar/impl.less").run Tryz.prog w = .ok (154, .agg #[]) w := by kernel_rfl
theorem mLessG (t v : Int) (r wr k : Bool) (w : World) : (method 290 148 (rgt t v r wr k) "loop.example/drawbar/impl.less").run Tryz.prog w = .ok (157, rgt t v r wr k) w := by kernel_rfl

set_option maxHeartbeats 2000000 in
theorem grantLess_any (t v : Int) (r wr k read write strong : Bool) (w : World) :
    Calls Tryz.prog 157 #[rgt t v r wr k, .bool read, .bool write, .bool strong] w fun e w' => e = .returned (rgt t v (r && read) (wr && (write && strong)) (k || !strong)) ∧ Below w.heap.size w w' := by
  cases r <;> rcases (show wr = false ∨ wr = true ∧ write = false ∨ wr = true ∧ write = true by cases wr <;> cases write <;> simp) with rfl | ⟨rfl, rfl⟩ | ⟨rfl, rfl⟩ <;> cases k
  all_goals
    go_enter Tryz.func157, Tryz.ntmps157
    go_wp2
    refine bodyPost_ret (v := rgt t v _ _ _) (by simp [results, Tryz.results157, go_sem]) rfl ⟨rfl, ?_⟩
    exact ((Below.refl _ _).alloc (Nat.le_refl _) _).alloc (by simp) _

set_option maxHeartbeats 2000000 in
theorem nothingLess_any (read write strong : Bool) (w : World) :
    Calls Tryz.prog 154 #[.agg #[], .bool read, .bool write, .bool strong] w fun e w' => e = .returned (rgt 0 0 false false false) ∧ Below w.heap.size w w' := by
  go_enter Tryz.func154, Tryz.ntmps154
  go_wp2
  refine bodyPost_ret (v := rgt 0 0 false false false) (by simp [results, Tryz.results154, go_sem]) rfl ⟨rfl, ?_⟩
  exact ((Below.refl _ _).alloc (Nat.le_refl _) _).alloc (by simp) _

set_option maxHeartbeats 1000000 in
theorem implLess_bad (t v : Int) (r wr k read write strong : Bool) (h : okR t v r wr k = false) (w : World) :
    Calls Tryz.prog 113 #[rgt t v r wr k, .bool read, .bool write, .bool strong] w fun e w' => e = .returned (rgt 0 0 false false false) ∧ Below w.heap.size w w' := by
  have K0 := Kn.two w 34 (rgtC t v r wr k) (rgtC 0 0 false false false)
  have H1 := Lib.hid h
  clear h
  go_enter Tryz.func113, Tryz.ntmps113
  go_wp2_with fail
  refine (implROk_val H1.out _).mono ?_
  rintro e x1 ⟨rfl, hb1⟩
  have K1 := K0.stay hb1
  have b2 := K1.box (b := w.heap.size + 1) (T := 34) (vs := rgtC 0 0 false false false) (by simp)
  have d0 := b2.cell 0 _ rfl
  have d1 := b2.cell 1 _ rfl
  have d2 := b2.cell 2 _ rfl
  have d3 := b2.cell 3 _ rfl
  have d4 := b2.cell 4 _ rfl
  have f0 := b2.thaw 0
  have f1 := b2.thaw 1
  have f2 := b2.thaw 2
  have f3 := b2.thaw 3
  have f4 := b2.thaw 4
  clear K0 hb1 b2
  go_wp2
  refine bodyPost_ret (v := rgt 0 0 false false false) (by simp [results, Tryz.results113, go_sem, *]) rfl ⟨rfl, ?_⟩
  repeat (first | exact K1.1 | refine Below.setCell ?_ (by dsimp only; omega) _)

set_option maxHeartbeats 1000000 in
theorem implLess_null (read write strong : Bool) (w : World) :
    Calls Tryz.prog 113 #[rgt 0 0 false false false, .bool read, .bool write, .bool strong] w fun e w' => e = .returned (rgt 0 0 false false false) ∧ Below w.heap.size w w' := by
  have K0 := Kn.two w 34 (rgtC 0 0 false false false) (rgtC 0 0 false false false)
  have hm := mLessN
  go_enter Tryz.func113, Tryz.ntmps113
  go_wp2_with fail
  refine (implROk_null _).mono ?_
  rintro e x1 ⟨rfl, hb1⟩
  have K1 := K0.stay hb1
  obtain ⟨q0, q1⟩ := bcell hb1
  have HK := Lib.hid K1
  clear K0 hb1 K1
  go_wp2_with fail
  refine (capOf_null _).mono ?_
  rintro e x2 ⟨rfl, hb2⟩
  have K2 := HK.out.stay hb2
  clear HK hb2 q0 q1
  have HK := Lib.hid K2
  clear K2
  go_wp2_with fail
  refine (nothingLess_any _ _ _ _).mono ?_
  rintro e x3 ⟨rfl, hb3⟩
  have K3 := HK.out.stay hb3
  have b2 := K3.box (b := w.heap.size + 1) (T := 34) (vs := rgtC 0 0 false false false) (by simp)
  have d0 := b2.cell 0 _ rfl
  have d1 := b2.cell 1 _ rfl
  have d2 := b2.cell 2 _ rfl
  have d3 := b2.cell 3 _ rfl
  have d4 := b2.cell 4 _ rfl
  have f0 := b2.thaw 0
  have f1 := b2.thaw 1
  have f2 := b2.thaw 2
  have f3 := b2.thaw 3
  have f4 := b2.thaw 4
  clear hb3 b2 HK
  go_wp2
  refine bodyPost_ret (v := rgt 0 0 false false false) (by simp [results, Tryz.results113, go_sem, *]) rfl ⟨rfl, ?_⟩
  repeat (first | exact K3.1 | refine Below.setCell ?_ (by dsimp only; omega) _)

set_option maxHeartbeats 1000000 in
theorem implLess_some (t v : Int) (r wr k read write strong : Bool) (h : okR t v r wr k = true) (hn : nullR t v r wr k = false) (w : World) :
    Calls Tryz.prog 113 #[rgt t v r wr k, .bool read, .bool write, .bool strong] w fun e w' => e = .returned (rgt t v (r && read) (wr && (write && strong)) (k || !strong)) ∧ Below w.heap.size w w' := by
  have K0 := Kn.two w 34 (rgtC t v r wr k) (rgtC 0 0 false false false)
  have hm := mLessG t v r wr k
  have H1 := Lib.hid h
  have H2 := Lib.hid hn
  have HL := Lib.hid (grantLess_any t v r wr k read write strong)
  clear h hn
  revert HL
  generalize (r && read) = b1
  generalize (wr && (write && strong)) = b2
  generalize (k || !strong) = b3
  intro HL
  go_enter Tryz.func113, Tryz.ntmps113
  go_wp2_with fail
  refine (implROk_val H1.out _).mono ?_
  rintro e x1 ⟨rfl, hb1⟩
  have K1 := K0.stay hb1
  obtain ⟨q0, q1⟩ := bcell hb1
  have HK := Lib.hid K1
  clear K0 hb1 K1
  go_wp2_with fail
  refine (capOf_some t v r wr k H2.out _).mono ?_
  rintro e x2 ⟨rfl, hb2⟩
  have K2 := HK.out.stay hb2
  clear HK hb2 q0 q1
  have HK := Lib.hid K2
  clear K2
  go_wp2_with fail
  refine (HL.out _).mono ?_
  rintro e x3 ⟨rfl, hb3⟩
  have K3 := HK.out.stay hb3
  have b2 := K3.box (b := w.heap.size + 1) (T := 34) (vs := rgtC 0 0 false false false) (by simp)
  have d0 := b2.cell 0 _ rfl
  have d1 := b2.cell 1 _ rfl
  have d2 := b2.cell 2 _ rfl
  have d3 := b2.cell 3 _ rfl
  have d4 := b2.cell 4 _ rfl
  have f0 := b2.thaw 0
  have f1 := b2.thaw 1
  have f2 := b2.thaw 2
  have f3 := b2.thaw 3
  have f4 := b2.thaw 4
  clear hb3 b2 HK HL
  go_wp2
  refine bodyPost_ret (v := rgt t v b1 _ b3) (by simp [results, Tryz.results113, go_sem, *]) rfl ⟨rfl, ?_⟩
  repeat (first | exact K3.1 | refine Below.setCell ?_ (by dsimp only; omega) _)

theorem implLess_any (t v : Int) (r wr k read write strong : Bool) (w : World) :
    Calls Tryz.prog 113 #[rgt t v r wr k, .bool read, .bool write, .bool strong] w fun e w' => e = .returned (lessV t v r wr k read write strong) ∧ Below w.heap.size w w' := by
  cases h : okR t v r wr k
  · have hg : lsG t v r wr k = false := by simp [lsG, h]
    rw [show lessV t v r wr k read write strong = rgt 0 0 false false false by simp only [lessV, hg, lsA, Bool.false_and]; rfl]
    exact implLess_bad t v r wr k read write strong h w
  · cases hn : nullR t v r wr k
    · have ht : ¬ t = 0 := by
        rintro rfl
        rw [okR_nonull hn] at h
        simp [okG, inR] at h
      have hg : lsG t v r wr k = true := by simp [lsG, h, ht]
      rw [show lessV t v r wr k read write strong = rgt t v (r && read) (wr && (write && strong)) (k || !strong) by simp only [lessV, hg, lsA, Bool.true_and]; rfl]
      exact implLess_some t v r wr k read write strong h hn w
    · obtain ⟨rfl, rfl, rfl, rfl, rfl⟩ := nullR_zero hn
      have := implLess_null read write strong w
      exact this
end Go.Proofs.YtbopficnajdaoaaGreatDoor

namespace Go.Proofs.YtbopficnajdaoaaGreatDoor
open Go.RowKit
set_option linter.unusedVariables false

theorem thAt_set {l : List T8} {jr : Nat} (hj : jr < l.length) (x : T8) : thAt (l.set jr x) ((jr : Int) + 1) = x := by
  rw [thAt_of (j := jr) (by simpa using hj) (by omega)]; simp
theorem thAt_set_ne {l : List T8} {jr : Nat} {n : Int} (hn : inR n 1 l.length = true) (hne : n ≠ (jr : Int) + 1) (x : T8) : thAt (l.set jr x) n = thAt l n := by
  obtain ⟨j, hj, e⟩ := idx_of hn
  rw [thAt_of (j := j) (by simpa using hj) e, thAt_of hj e, List.getElem_set_ne (by omega)]
theorem slotAt_set {x : T8} {ja : Nat} (hj : ja < x.slots.length) (v : R5) : slotAt { x with slots := x.slots.set ja v } (ja : Int) = v := by
  rw [slotAt_of (j := ja) (by simpa using hj) rfl]; simp
/-- By no right nothing is done. -/
theorem chk_null {l : List T8} {jr ja : Nat} {ck cb cn : Int} (h3 : ck ≠ 3) (hj : jr < l.length) (hja : ja < l[jr].slots.length) :
    chkV (l.set jr { l[jr] with slots := (l[jr]).slots.set ja ⟨0, 0, false, false, false⟩ }) ⟨ck, (jr : Int) + 1, (ja : Int), cb, cn⟩ = -1 := by
  cases h1 : (tabOk (l.set jr { l[jr] with slots := (l[jr]).slots.set ja ⟨0, 0, false, false, false⟩ }) && isRun (l.set jr { l[jr] with slots := (l[jr]).slots.set ja ⟨0, 0, false, false, false⟩ }) ((jr : Int) + 1)) with
  | false => exact chkV_no h1
  | true =>
    cases h2 : (C5.ok ⟨ck, (jr : Int) + 1, (ja : Int), cb, cn⟩) with
    | false => exact chkV_bad h2
    | true =>
      rw [chkV_go h1 h2, if_neg h3]
      dsimp only
      rw [thAt_set hj, slotAt_set hja]
      exact useV_none (by simp [inR]) (Int.le_refl _) (by dsimp only; omega)
/-! A thing is another one. -/
theorem th_set (l : List T8) (j : Nat) (x : T8) (n : Int) : (thAt (l.set j x) n = x ∧ (n - 1).toNat = j ∧ j < l.length) ∨ thAt (l.set j x) n = thAt l n := by
  unfold thAt
  rw [List.getElem?_set]
  by_cases h : j = (n - 1).toNat
  · by_cases h2 : j < l.length
    · exact .inl ⟨by rw [if_pos h, if_pos h2]; rfl, h.symm, h2⟩
    · right
      rw [if_pos h, if_neg (by omega)]
      rw [List.getElem?_eq_none (by omega)]
  · right; rw [if_neg h]
theorem th_same {α : Type} (f : T8 → α) {l : List T8} {j : Nat} {x : T8} (hx : ∀ hj : j < l.length, f x = f l[j]) (n : Int) : f (thAt (l.set j x) n) = f (thAt l n) := by
  rcases th_set l j x n with ⟨h, e, hj⟩ | h
  · rw [h, hx hj]
    congr 1
    unfold thAt
    rw [e, List.getElem?_eq_getElem hj]; rfl
  · rw [h]
theorem versAt_th (l : List T8) (n : Int) : versAt l n = (thAt l (n + 1)).vers := by
  unfold versAt thAt
  rw [show n + 1 - 1 = n by omega]
  cases l[n.toNat]? <;> rfl
theorem kindAt_th (l : List T8) (n : Int) : kindAt l n = (thAt l (n + 1)).kind := by
  unfold kindAt thAt
  rw [show n + 1 - 1 = n by omega]
  cases l[n.toNat]? <;> rfl
theorem seesT_eq {p p' x x' : T8} (h1 : p.sec = p'.sec) (h2 : p.vou = p'.vou) (h3 : x.sec = x'.sec) (h4 : x.vou = x'.vou) : seesT p x = seesT p' x' := by unfold seesT; rw [h1, h2, h3, h4]
theorem touT_eq {p p' x x' : T8} (h1 : p.sec = p'.sec) (h2 : p.vou = p'.vou) (h3 : x.sec = x'.sec) (h4 : x.vou = x'.vou) : touT p x = touT p' x' := by unfold touT; rw [h1, h2, h3, h4]
/-- A table stays one when a thing is another one of its kind, no elder, with rights to things that there are. -/
theorem tab_set {l : List T8} {k : Nat} {x : T8} (hT : tabOk l = true) (hk : k < l.length) (ho : okT x = true) (e1 : x.kind = l[k].kind) (e2 : x.to = l[k].to) (e3 : x.slots.all (rightIn l) = true) (e4 : l[k].vers ≤ x.vers) : tabOk (l.set k x) = true := by
  have hv : ∀ n, versAt l n ≤ versAt (l.set k x) n := fun n => by
    rw [versAt_th, versAt_th]
    rcases th_set l k x (n + 1) with ⟨h, e, hj⟩ | h
    · rw [h]
      have : thAt l (n + 1) = l[k] := by unfold thAt; rw [e, List.getElem?_eq_getElem hj]; rfl
      rw [this]; exact e4
    · rw [h]; exact Int.le_refl _
  have hkd : ∀ n, kindAt (l.set k x) n = kindAt l n := fun n => by
    rw [kindAt_th, kindAt_th]
    exact th_same T8.kind (fun _ => e1) _
  have hg : ∀ y : T8, gateOk l y = true → gateOk (l.set k x) y = true := fun y h => by
    unfold gateOk at h ⊢
    rw [hkd, List.length_set]; exact h
  have hr : ∀ r : R5, rightIn l r = true → rightIn (l.set k x) r = true := fun r h => by
    unfold rightIn at h ⊢
    rw [List.length_set]
    have := hv (r.t - 1)
    simp only [Bool.not_eq_true', Bool.or_eq_false_iff, Bool.and_eq_false_iff, decide_eq_false_iff_not] at h ⊢
    refine ⟨h.1, ?_⟩
    rcases h.2 with h2 | h2
    · exact .inl h2
    · exact .inr (by omega)
  have hall : ∀ s : List R5, s.all (rightIn l) = true → s.all (rightIn (l.set k x)) = true := fun s h => by
    rw [List.all_eq_true] at h ⊢
    exact fun r hm => hr r (h r hm)
  have hE : ∀ y ∈ l, elemOk l y = true := by
    simp only [tabOk, Bool.and_eq_true] at hT
    exact List.all_eq_true.1 hT.1
  have hL : inR l.length 1 8 = true := by simp only [tabOk, Bool.and_eq_true] at hT; exact hT.2
  unfold tabOk
  rw [List.length_set, hL, Bool.and_true, List.all_eq_true]
  intro y hy
  rcases List.mem_or_eq_of_mem_set hy with hy | rfl
  · have := hE y hy
    simp only [elemOk, Bool.and_eq_true] at this ⊢
    exact ⟨this.1, hg y this.2.1, hall _ this.2.2⟩
  · have := hE l[k] (List.getElem_mem hk)
    simp only [elemOk, Bool.and_eq_true] at this ⊢
    refine ⟨ho, ?_, hall _ e3⟩
    have h2 := hg _ this.2.1
    unfold gateOk at h2 ⊢
    rw [e1, e2]; exact h2
theorem ok_page {x : T8} (h : okT x = true) (hk : x.kind = 1) {n v : Int} (hn : 0 ≤ n ∧ n ≤ 99) (hv : 0 ≤ v ∧ v ≤ 5) : okT { x with num := n, vers := v } = true := by
  simp only [okT, okT1, okT2, okT3, okT4, leastN, hasS, hk, Bool.and_eq_true, inR, decide_eq_true_eq] at h ⊢
  simp at h ⊢
  simp [h, hn, hv]
theorem ok_pipe {x : T8} (h : okT x = true) (hk : x.kind = 4) {v : Int} (hv : 0 ≤ v ∧ v ≤ 5) : okT { x with queue := [3], vers := v } = true := by
  simp only [okT, okT1, okT2, okT3, okT4, leastN, hasS, hk, Bool.and_eq_true, inR, decide_eq_true_eq] at h ⊢
  simp at h ⊢
  simp [h, hv]
theorem kn_five {w x : World} {L : List Blk3} (h : Kn w L x) {b o : Nat} (hb : w.heap.size ≤ b) (hn : ∀ t ∈ L, t.1 ≠ b) (u0 u1 u2 u3 u4 : Value) : Kn w L (((((x.setCell ⟨b, o, none⟩ u0).setCell ⟨b, o + 1, none⟩ u1).setCell ⟨b, o + 2, none⟩ u2).setCell ⟨b, o + 3, none⟩ u3).setCell ⟨b, o + 4, none⟩ u4) :=
  ((((h.put (p := ⟨b, o, none⟩) hb hn u0).put (p := ⟨b, o + 1, none⟩) hb hn u1).put (p := ⟨b, o + 2, none⟩) hb hn u2).put (p := ⟨b, o + 3, none⟩) hb hn u3).put (p := ⟨b, o + 4, none⟩) hb hn u4
theorem hasQ_one {W : World} {b : Nat} {z : Int} (bx : Box W b 3 (qC z)) : HasQ W ⟨some ⟨b, 0, none⟩, 1, 1⟩ [z] := by
  refine ⟨rfl, Nat.le_refl _, .inr ⟨b, 0, rfl, fun i x hx j u hj => ?_⟩⟩
  have hi : i = 0 := by have := (List.getElem?_eq_some_iff.1 hx).1; simp at this; omega
  subst hi
  simp at hx
  subst hx
  have := bx.cell j u hj
  simpa using this
theorem okT_vers {x : T8} (h : okT x = true) : 0 ≤ x.vers ∧ x.vers ≤ 5 := by
  simp only [okT, okT1, Bool.and_eq_true, inR, decide_eq_true_eq] at h
  exact h.1.2.2.1
theorem okT_num1 {x : T8} (h : okT x = true) (hk : x.kind = 1) : 0 ≤ x.num ∧ x.num ≤ 99 := by
  simp only [okT, okT2, leastN, hk, Bool.and_eq_true, inR, decide_eq_true_eq] at h
  have := h.2.1.1
  simpa using this
/-- What one may not know does not turn what one is told. -/
theorem chk_blind {l : List T8} {kk : Nat} {x : T8} {q : C5} (hT : tabOk l = true) (hR : isRun l q.r = true) (hq : q.ok = true) (hk : kk < l.length) (hT' : tabOk (l.set kk x) = true) (e1 : x.kind = l[kk].kind) (e2 : x.sec = l[kk].sec) (e3 : x.vou = l[kk].vou) (e4 : x.slots = l[kk].slots)
    (hs : seesT (thAt l q.r) l[kk] = false) : chkV (l.set kk x) q = chkV l q := by
  have k1 := th_same T8.kind (l := l) (j := kk) (x := x) (fun _ => e1)
  have k2 := th_same T8.sec (l := l) (j := kk) (x := x) (fun _ => e2)
  have k3 := th_same T8.vou (l := l) (j := kk) (x := x) (fun _ => e3)
  have k4 := th_same T8.slots (l := l) (j := kk) (x := x) (fun _ => e4)
  have hR' : isRun (l.set kk x) q.r = true := by
    unfold isRun at hR ⊢
    rw [k1, List.length_set]; exact hR
  have hsl : slotAt (thAt (l.set kk x) q.r) q.a = slotAt (thAt l q.r) q.a := by unfold slotAt; rw [k4]
  have hc := chkV_go (l := l.set kk x) (c := q) (by rw [hT', hR']; rfl) hq
  have hc0 := chkV_go (l := l) (c := q) (by rw [hT, hR]; rfl) hq
  rw [hc, hc0, hsl]
  split
  · rfl
  · obtain ⟨r, hr⟩ : ∃ r, slotAt (thAt l q.r) q.a = r := ⟨_, rfl⟩
    rw [hr]
    have es : seesT (thAt (l.set kk x) q.r) (thAt (l.set kk x) r.t) = seesT (thAt l q.r) (thAt l r.t) := seesT_eq (k2 _) (k3 _) (k2 _) (k3 _)
    have et : touT (thAt (l.set kk x) q.r) (thAt (l.set kk x) r.t) = touT (thAt l q.r) (thAt l r.t) := touT_eq (k2 _) (k3 _) (k2 _) (k3 _)
    unfold useV
    rw [k1, es, et]
    by_cases hsee : seesT (thAt l q.r) (thAt l r.t) = true
    · have hlv : liveB (l.set kk x) r = liveB l r := by
        unfold liveB
        rw [versAt_th, versAt_th, List.length_set]
        rcases th_set l kk x (r.t - 1 + 1) with ⟨h, e, hj⟩ | h
        · exfalso
          have : thAt l r.t = l[kk] := by unfold thAt; rw [show r.t - 1 = r.t - 1 + 1 - 1 by omega, e, List.getElem?_eq_getElem hj]; rfl
          rw [this] at hsee
          rw [hs] at hsee; cases hsee
        · rw [h]
      rw [hlv]
    · have hsee' : seesT (thAt l q.r) (thAt l r.t) = false := by simpa using hsee
      rw [hsee']; rfl
/-- A right that gives less. -/
def lessR (r : R5) (a b c : Bool) : R5 := ⟨lsA (lsG r.t r.v r.r r.w r.k) r.t, lsA (lsG r.t r.v r.r r.w r.k) r.v, lsG r.t r.v r.r r.w r.k && (r.r && a), lsG r.t r.v r.r r.w r.k && (r.w && (b && c)), lsG r.t r.v r.r r.w r.k && (r.k || !c)⟩
theorem chk_less {l : List T8} {x : T8} {jr ja : Nat} {ck cb cn : Int} {a b c : Bool} (hT : tabOk l = true) (hR : isRun l ((jr : Int) + 1) = true) (hq : C5.ok ⟨ck, (jr : Int) + 1, (ja : Int), cb, cn⟩ = true) (hj : jr < l.length) (hja : ja < l[jr].slots.length)
    (e1 : x.kind = l[jr].kind) (e2 : x.sec = l[jr].sec) (e3 : x.vou = l[jr].vou) (e5 : x.vers = l[jr].vers) (e4 : x.slots = (l[jr]).slots.set ja (lessR (l[jr]).slots[ja] a b c))
    (h0 : chkV (l.set jr x) ⟨ck, (jr : Int) + 1, (ja : Int), cb, cn⟩ = 0) : chkV l ⟨ck, (jr : Int) + 1, (ja : Int), cb, cn⟩ = 0 := by
  have hc0 := chkV_go (l := l) (c := ⟨ck, (jr : Int) + 1, (ja : Int), cb, cn⟩) (by rw [hT, hR]; rfl) hq
  by_cases h3 : ck = 3
  · rw [hc0, if_pos h3]
  obtain ⟨-, -, hin, hki, hri, hfo⟩ := chk_facts h0 (by decide) h3
  dsimp only at hin hki hri hfo
  have k1 := th_same T8.kind (l := l) (j := jr) (x := x) (fun _ => e1)
  have k2 := th_same T8.sec (l := l) (j := jr) (x := x) (fun _ => e2)
  have k3 := th_same T8.vou (l := l) (j := jr) (x := x) (fun _ => e3)
  have k5 := th_same T8.vers (l := l) (j := jr) (x := x) (fun _ => e5)
  have esl : slotAt (thAt (l.set jr x) ((jr : Int) + 1)) (ja : Int) = lessR (l[jr]).slots[ja] a b c := by
    rw [thAt_set hj]
    unfold slotAt
    rw [e4]
    simp [hja]
  have esl0 : slotAt (thAt l ((jr : Int) + 1)) (ja : Int) = (l[jr]).slots[ja] := by rw [thAt_of hj (by omega), slotAt_of hja rfl]
  rw [esl] at hin hki hri hfo
  rw [k1] at hki
  rw [List.length_set] at hin
  obtain ⟨r, hr⟩ : ∃ r, (l[jr]).slots[ja] = r := ⟨_, rfl⟩
  rw [hr] at hin hki hri hfo esl0
  cases hg : lsG r.t r.v r.r r.w r.k with
  | false => simp [lessR, hg, lsA, inR] at hin
  | true =>
    have et : (lessR r a b c).t = r.t := by simp [lessR, hg, lsA]
    have ev : (lessR r a b c).v = r.v := by simp [lessR, hg, lsA]
    have er : (lessR r a b c).r = true → r.r = true := by simp [lessR, hg]; exact fun h _ => h
    have ew : (lessR r a b c).w = true → r.w = true := by simp [lessR, hg]; exact fun h _ _ => h
    rw [et] at hin hki hfo
    have hri' : ((!needR ck || r.r) && (!needW ck || r.w)) = true := by
      simp only [Bool.and_eq_true, Bool.or_eq_true, Bool.not_eq_true'] at hri ⊢
      exact ⟨hri.1.imp_right er, hri.2.imp_right ew⟩
    have es := seesT_eq (k2 ((jr : Int) + 1)) (k3 ((jr : Int) + 1)) (k2 r.t) (k3 r.t)
    have eto := touT_eq (k2 ((jr : Int) + 1)) (k3 ((jr : Int) + 1)) (k2 r.t) (k3 r.t)
    rw [es, eto] at hfo
    have hlv : liveB (l.set jr x) (lessR r a b c) = liveB l r := by
      unfold liveB
      rw [et, ev, versAt_th, versAt_th, List.length_set, k5]
    rw [hlv] at hfo
    rw [hc0, if_neg h3]
    dsimp only
    rw [esl0, useV_go hin hki hri']
    exact hfo.symm
end Go.Proofs.YtbopficnajdaoaaGreatDoor
