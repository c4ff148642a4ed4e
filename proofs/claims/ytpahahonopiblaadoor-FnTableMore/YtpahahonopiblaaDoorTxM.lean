/-
  Texts of ours as one: TxtD, TxtA, TxtS, TxtT, TxtI, InvF, IterK, TxtP, TxtQ, TpOf.
-/
import Derived.Test.YtpahahonopiblaaDoorTabOk
import Derived.Test.YtpahahonopiblaaDoorTNew
import Derived.Test.YtpahahonopiblaaDoorRigW
import Derived.Test.YtpahahonopiblaaDoorDecI
import Derived.Test.YtpahahonopiblaaDoorLabT
import Derived.Deep.RegionWith
import Derived.Test.YtpahahonopiblaaDoorRigU
import Derived.Deep.DeepCutAuto
import Derived.Deep.RegionHeld3
import Derived.Deep.QuietTactic
import Derived.BigQuiet
import Derived.Test.YtpahahonopiblaaDoorShf
import Derived.Lib.AppendIntMem
import Derived.Test.YtpahahonopiblaaDoorInv
import Derived.RangeFuncBox
import Derived.OrdersIn
import Derived.Test.YtpahahonopiblaaDoorThgD
import Derived.Test.YtpahahonopiblaaDoorRigM
import Derived.Sort.CutIn
import Derived.Test.YtpahahonopiblaaDoorThgI
import Derived.Lib.LaidTab
namespace Go.Proofs.YtpahahonopiblaaDoor
open Go.RowKit
set_option linter.unusedVariables false

/-! The text of a table, as plain data. -/
theorem x_okT_lab {x : T8} (h : okT x = true) : okL x.sec x.vou = true := by
  simp only [okT, okT1, Bool.and_eq_true] at h
  exact h.1.2.1
theorem x_okT_vers {x : T8} (h : okT x = true) : 0 ≤ x.vers ∧ x.vers ≤ 5 := by
  simp only [okT, okT1, Bool.and_eq_true] at h
  simpa [inR] using h.1.2.2.1
theorem x_okT_num {x : T8} (h : okT x = true) : -4 ≤ x.num ∧ x.num ≤ 99 := by
  simp only [okT, okT2, Bool.and_eq_true] at h
  have h2 : leastN x ≤ x.num ∧ x.num ≤ 99 := by simpa [inR] using h.2.1.1
  unfold leastN at h2
  split at h2 <;> omega
theorem x_okT_queue {x : T8} (h : okT x = true) : x.queue.length ≤ 3 ∧ ∀ q ∈ x.queue, 0 ≤ q ∧ q ≤ 99 := by
  simp only [okT, okT1, Bool.and_eq_true] at h
  refine ⟨?_, fun q hq => ?_⟩
  · have := h.1.2.2.2; simp at this; omega
  · have := List.all_eq_true.1 h.2.2.1 q hq
    simpa [inR] using this
theorem x_ok_slots {x : T8} (h : okT x = true) : x.slots.all R5.ok = true := by simp only [okT, Bool.and_eq_true] at h; exact h.2.2.2.1
theorem x_okT_to0 {x : T8} (h : okT x = true) (hk : x.kind ≠ 5) : x.to = 0 := by
  simp only [okT, okT4, Bool.and_eq_true] at h
  have := h.2.2.2.2.2.2
  simp [hk] at this
  exact this
/-- A number in decimals (-9 to 99). -/
def decL (n : Int) : List UInt8 := if n < 0 then [45, (48 + (-n).toNat).toUInt8] else if n < 10 then [(48 + n.toNat).toUInt8] else [(48 + (n / 10).toNat).toUInt8, (48 + (n % 10).toNat).toUInt8]
/-- The name of a kind. -/
def nameL (k : Int) : List UInt8 := if k = 1 then [112, 97, 103, 101] else if k = 2 then [110, 111, 100, 101] else if k = 3 then [114, 117, 110] else if k = 4 then [112, 105, 112, 101] else [103, 97, 116, 101]
def rgtL (r : R5) : List UInt8 := (txtR r.t r.v r.r r.w r.k).data.toList
/-- What comes behind a thing's number. -/
def tailL (x : T8) : List UInt8 := x.slots.flatMap (fun r => 32 :: rgtL r) ++ (x.queue.flatMap (fun q => 32 :: 60 :: decL q) ++ ((if x.kind = 5 then 32 :: 62 :: decL x.to else []) ++ [10]))
def thingL (x : T8) : List UInt8 := nameL x.kind ++ 32 :: (decL x.sec ++ 47 :: decL x.vou) ++ 32 :: (decL x.vers ++ 32 :: (decL x.num ++ tailL x))
/-- The text of things, from a number on. -/
def tabL : Nat → List T8 → List UInt8
  | _, [] => []
  | i, x :: l => decL ((i : Int) + 1) ++ 32 :: (thingL x ++ tabL (i + 1) l)
/-- Words end at a blank or at a line's end. -/
def Wd' (u : List UInt8) : Prop := ∀ c ∈ u, c ≠ 32 ∧ c ≠ 10
def Sep (x : List UInt8) : Prop := ∃ c y, x = c :: y ∧ (c = 32 ∨ c = 10)
theorem word_eq {u v x y : List UInt8} (hu : Wd' u) (hv : Wd' v) (hx : Sep x) (hy : Sep y) (e : u ++ x = v ++ y) : u = v ∧ x = y := by
  induction u generalizing v with
  | nil =>
    cases v with
    | nil => exact ⟨rfl, e⟩
    | cons d v =>
      obtain ⟨c, x', rfl, hc⟩ := hx
      simp at e
      have := hv d (by simp)
      rcases hc with rfl | rfl
      · exact absurd e.1.symm this.1
      · exact absurd e.1.symm this.2
  | cons c u ih =>
    cases v with
    | nil =>
      obtain ⟨d, y', rfl, hd⟩ := hy
      simp at e
      have := hu c (by simp)
      rcases hd with rfl | rfl
      · exact absurd e.1 this.1
      · exact absurd e.1 this.2
    | cons d v =>
      simp only [List.cons_append, List.cons.injEq] at e
      obtain ⟨rfl, e⟩ := e
      obtain ⟨rfl, e2⟩ := ih (fun c hc => hu c (by simp [hc])) (fun c hc => hv c (by simp [hc])) e
      exact ⟨rfl, e2⟩
theorem sep_b (x : List UInt8) : Sep (32 :: x) := ⟨32, x, rfl, .inl rfl⟩
theorem sep_n (x : List UInt8) : Sep (10 :: x) := ⟨10, x, rfl, .inr rfl⟩
theorem dec_word {n : Int} (h : -9 ≤ n ∧ n ≤ 99) : Wd' (decL n) := by
  have key : ∀ k : Fin 109, ((decL ((k.val : Int) - 9)).all fun c => c != 32 && c != 10) = true := by decide +kernel
  have := key ⟨(n + 9).toNat, by omega⟩
  dsimp only at this
  rw [show (((n + 9).toNat : Nat) : Int) - 9 = n by omega] at this
  intro c hc
  have := List.all_eq_true.1 this c hc
  simpa using this
/-- A number read back. -/
def undec (l : List UInt8) : Int := match l with
  | [a] => (a.toNat : Int) - 48
  | [a, b] => if a = 45 then -((b.toNat : Int) - 48) else ((a.toNat : Int) - 48) * 10 + ((b.toNat : Int) - 48)
  | _ => 0
theorem undec_dec {n : Int} (h : -9 ≤ n ∧ n ≤ 99) : undec (decL n) = n := by
  have key : ∀ k : Fin 109, undec (decL ((k.val : Int) - 9)) = (k.val : Int) - 9 := by decide +kernel
  have := key ⟨(n + 9).toNat, by omega⟩
  dsimp only at this
  rwa [show (((n + 9).toNat : Nat) : Int) - 9 = n by omega] at this
theorem dec_inj {m n : Int} (hm : -9 ≤ m ∧ m ≤ 99) (hn : -9 ≤ n ∧ n ≤ 99) (e : decL m = decL n) : m = n := by
  rw [← undec_dec hm, e, undec_dec hn]
theorem name_word (k : Int) : Wd' (nameL k) := by
  unfold nameL
  repeat' split
  all_goals (intro c hc; simp at hc; rcases hc with rfl | rfl | rfl | rfl <;> decide)
theorem name_inj {k m : Int} (hk : inR k 1 5 = true) (hm : inR m 1 5 = true) (e : nameL k = nameL m) : k = m := by
  simp [inR] at hk hm
  have h1 : k = 1 ∨ k = 2 ∨ k = 3 ∨ k = 4 ∨ k = 5 := by omega
  have h2 : m = 1 ∨ m = 2 ∨ m = 3 ∨ m = 4 ∨ m = 5 := by omega
  rcases h1 with rfl | rfl | rfl | rfl | rfl <;> rcases h2 with rfl | rfl | rfl | rfl | rfl <;> first | rfl | (exfalso; revert e; decide)

theorem rgt_inj' {a b : R5} (ha : a.ok = true) (hb : b.ok = true) (e : rgtL a = rgtL b) : a = b := by
  have h1 : txtR a.t a.v a.r a.w a.k = txtR b.t b.v b.r b.w b.k := by
    unfold rgtL at e
    generalize txtR a.t a.v a.r a.w a.k = u at e
    generalize txtR b.t b.v b.r b.w b.k = v at e
    obtain ⟨u⟩ := u
    obtain ⟨v⟩ := v
    simp only [ByteArray.mk.injEq]
    exact Array.toList_inj.1 e
  obtain ⟨r1, r2, r3, r4, r5⟩ := txtR_inj ha hb h1
  obtain ⟨t, v, r, w, k⟩ := a
  obtain ⟨t', v', r', w', k'⟩ := b
  dsimp only at r1 r2 r3 r4 r5
  subst r1 r2 r3 r4 r5
  rfl
theorem rgt_word {a : R5} (ha : a.ok = true) : Wd' (rgtL a) := by
  obtain ⟨t, v, r, w, k⟩ := a
  unfold R5.ok at ha
  dsimp only at ha
  unfold rgtL
  dsimp only
  unfold txtR
  rw [if_pos ha]
  by_cases ht : t = 0
  · rw [if_pos ht]
    intro c hc; simp at hc; subst hc; decide
  · rw [if_neg ht]
    simp only [okR, ht, if_false, Bool.and_eq_true] at ha
    have a1 : 1 ≤ t ∧ t ≤ 8 := by simpa [inR] using ha.1
    have a2 : 0 ≤ v ∧ v ≤ 5 := by simpa [inR] using ha.2.1
    have k1 : ∀ x : Fin 9, (48 + x.val).toUInt8 ≠ 32 ∧ (48 + x.val).toUInt8 ≠ 10 := by decide
    have t1 := k1 ⟨t.toNat, by omega⟩
    have v1 := k1 ⟨v.toNat, by omega⟩
    dsimp only at t1 v1
    intro c hc
    simp only [List.mem_cons, List.not_mem_nil, or_false] at hc
    rcases hc with rfl | rfl | rfl | rfl | rfl | rfl
    · exact t1
    · decide
    · exact v1
    · cases r <;> decide
    · cases w <;> decide
    · cases k <;> decide
/-- Rights one behind the other. -/
theorem slots_inj {s t : List R5} (hs : s.all R5.ok = true) (ht : t.all R5.ok = true) (hl : s.length = t.length) {x y : List UInt8} (hx : Sep x) (hy : Sep y) (e : s.flatMap (fun r => 32 :: rgtL r) ++ x = t.flatMap (fun r => 32 :: rgtL r) ++ y) : s = t ∧ x = y := by
  induction s generalizing t with
  | nil =>
    cases t with
    | nil => exact ⟨rfl, e⟩
    | cons b t => simp at hl
  | cons a s ih =>
    cases t with
    | nil => simp at hl
    | cons b t =>
      simp only [List.all_cons, Bool.and_eq_true] at hs ht
      simp only [List.flatMap_cons, List.cons_append, List.append_assoc, List.cons.injEq, true_and] at e
      have sep : ∀ (z : List R5) (w : List UInt8), Sep w → Sep (z.flatMap (fun r => 32 :: rgtL r) ++ w) := fun z w hw => by
        cases z with
        | nil => exact hw
        | cons c z => exact sep_b _
      obtain ⟨e1, e2⟩ := word_eq (rgt_word hs.1) (rgt_word ht.1) (sep s x hx) (sep t y hy) e
      obtain ⟨e3, e4⟩ := ih hs.2 ht.2 (by simpa using hl) e2
      exact ⟨by rw [rgt_inj' hs.1 ht.1 e1, e3], e4⟩
theorem queue_inj {s t : List Int} (hs : ∀ q ∈ s, 0 ≤ q ∧ q ≤ 99) (ht : ∀ q ∈ t, 0 ≤ q ∧ q ≤ 99) {x y : List UInt8} (e : s.flatMap (fun q => 32 :: 60 :: decL q) ++ 10 :: x = t.flatMap (fun q => 32 :: 60 :: decL q) ++ 10 :: y) : s = t ∧ x = y := by
  induction s generalizing t with
  | nil =>
    cases t with
    | nil => simpa using e
    | cons b t => simp at e
  | cons a s ih =>
    cases t with
    | nil => simp at e
    | cons b t =>
      simp only [List.flatMap_cons, List.cons_append, List.append_assoc, List.cons.injEq, true_and] at e
      have sep : ∀ (z : List Int) (w : List UInt8), Sep (z.flatMap (fun q => 32 :: 60 :: decL q) ++ 10 :: w) := fun z w => by
        cases z with
        | nil => exact sep_n _
        | cons c z => exact sep_b _
      have a1 := hs a (by simp)
      have b1 := ht b (by simp)
      obtain ⟨e1, e2⟩ := word_eq (dec_word (by omega)) (dec_word (by omega)) (sep s x) (sep t y) e
      obtain ⟨e3, e4⟩ := ih (fun q hq => hs q (by simp [hq])) (fun q hq => ht q (by simp [hq])) e2
      exact ⟨by rw [dec_inj (by omega) (by omega) e1, e3], e4⟩
theorem okT_lens {x y : T8} (hx : okT x = true) (hy : okT y = true) (e : x.kind = y.kind) : x.slots.length = y.slots.length := by
  have h1 : okT3 x = true := by simp only [okT, Bool.and_eq_true] at hx; exact hx.2.2.2.2.1
  have h2 : okT3 y = true := by simp only [okT, Bool.and_eq_true] at hy; exact hy.2.2.2.2.1
  unfold okT3 at h1 h2
  rw [e] at h1
  cases hh : hasS y.kind with
  | true =>
    rw [hh] at h1 h2
    simp only [if_true, beq_iff_eq] at h1 h2
    omega
  | false =>
    rw [hh] at h1 h2
    simp only [Bool.false_eq_true, if_false, beq_iff_eq] at h1 h2
    omega
theorem okT_ranges {x : T8} (hx : okT x = true) : inR x.kind 1 5 = true ∧ (0 ≤ x.sec ∧ x.sec ≤ 3) ∧ (0 ≤ x.vou ∧ x.vou ≤ 3) ∧ (0 ≤ x.vers ∧ x.vers ≤ 5) ∧ (-4 ≤ x.num ∧ x.num ≤ 99) := by
  have hl := x_okT_lab hx
  have hv := x_okT_vers hx
  have hn := x_okT_num hx
  have hk : inR x.kind 1 5 = true := by simp only [okT, okT1, Bool.and_eq_true] at hx; exact hx.1.1
  simp only [okL, okN, Bool.and_eq_true] at hl
  simp at hl
  exact ⟨hk, by omega, by omega, hv, hn⟩
theorem lab_word {s v : Int} (hs : 0 ≤ s ∧ s ≤ 3) (hv : 0 ≤ v ∧ v ≤ 3) : Wd' (decL s ++ 47 :: decL v) := by
  intro c hc
  rcases List.mem_append.1 hc with h | h
  · exact dec_word (by omega) c h
  · rcases List.mem_cons.1 h with rfl | h
    · decide
    · exact dec_word (by omega) c h
theorem lab_inj {s v s2 v2 : Int} (hs : 0 ≤ s ∧ s ≤ 3) (hv : 0 ≤ v ∧ v ≤ 3) (hs2 : 0 ≤ s2 ∧ s2 ≤ 3) (hv2 : 0 ≤ v2 ∧ v2 ≤ 3) (e : decL s ++ 47 :: decL v = decL s2 ++ 47 :: decL v2) : s = s2 ∧ v = v2 := by
  have d : ∀ n : Int, 0 ≤ n ∧ n ≤ 3 → decL n = [(48 + n.toNat).toUInt8] := fun n hn => by unfold decL; rw [if_neg (by omega), if_pos (by omega)]
  rw [d s hs, d s2 hs2] at e
  simp only [List.cons_append, List.nil_append, List.cons.injEq, true_and] at e
  refine ⟨?_, dec_inj (by omega) (by omega) e.2⟩
  apply dec_inj (by omega) (by omega)
  rw [d s hs, d s2 hs2, e.1]
theorem tail_sep (x : T8) (y : List UInt8) : Sep (tailL x ++ y) := by
  unfold tailL
  cases x.slots with
  | cons a s => exact sep_b _
  | nil =>
    cases x.queue with
    | cons a s => exact sep_b _
    | nil =>
      simp only [List.flatMap_nil, List.nil_append]
      split
      · exact sep_b _
      · exact sep_n _
theorem okT_q {x : T8} (h : okT x = true) (hk : x.kind ≠ 4) : x.queue = [] := by
  have : okT4 x = true := by simp only [okT, Bool.and_eq_true] at h; exact h.2.2.2.2.2
  simp only [okT4, Bool.and_eq_true] at this
  have := this.1
  simp [hk] at this
  exact this
theorem thing_inj {x y : T8} (hx : okT x = true) (hy : okT y = true) {u v : List UInt8} (e : thingL x ++ u = thingL y ++ v) : x = y ∧ u = v := by
  obtain ⟨x1, x2, x3, x4, x5⟩ := okT_ranges hx
  obtain ⟨y1, y2, y3, y4, y5⟩ := okT_ranges hy
  unfold thingL at e
  simp only [List.append_assoc, List.cons_append] at e
  obtain ⟨e1, e⟩ := word_eq (name_word _) (name_word _) (sep_b _) (sep_b _) e
  simp only [List.cons.injEq, true_and] at e
  rw [show decL x.sec ++ 47 :: (decL x.vou ++ 32 :: (decL x.vers ++ 32 :: (decL x.num ++ (tailL x ++ u)))) = (decL x.sec ++ 47 :: decL x.vou) ++ 32 :: (decL x.vers ++ 32 :: (decL x.num ++ (tailL x ++ u))) by simp, show decL y.sec ++ 47 :: (decL y.vou ++ 32 :: (decL y.vers ++ 32 :: (decL y.num ++ (tailL y ++ v)))) = (decL y.sec ++ 47 :: decL y.vou) ++ 32 :: (decL y.vers ++ 32 :: (decL y.num ++ (tailL y ++ v))) by simp] at e
  obtain ⟨e2, e⟩ := word_eq (lab_word x2 x3) (lab_word y2 y3) (sep_b _) (sep_b _) e
  simp only [List.cons.injEq, true_and] at e
  obtain ⟨e3, e⟩ := word_eq (dec_word (by omega)) (dec_word (by omega)) (sep_b _) (sep_b _) e
  simp only [List.cons.injEq, true_and] at e
  obtain ⟨e4, e⟩ := word_eq (dec_word (by omega)) (dec_word (by omega)) (tail_sep x u) (tail_sep y v) e
  have k := name_inj x1 y1 e1
  obtain ⟨l1, l2⟩ := lab_inj x2 x3 y2 y3 e2
  have v1 := dec_inj (by omega) (by omega) e3
  have n1 := dec_inj (by omega) (by omega) e4
  unfold tailL at e
  simp only [List.append_assoc] at e
  have sp : ∀ (z : T8) (w : List UInt8), Sep (z.queue.flatMap (fun q => 32 :: 60 :: decL q) ++ ((if z.kind = 5 then 32 :: 62 :: decL z.to else []) ++ ([10] ++ w))) := fun z w => by
    cases z.queue with
    | cons a s => exact sep_b _
    | nil =>
      simp only [List.flatMap_nil, List.nil_append]
      split
      · exact sep_b _
      · exact sep_n _
  have a1 : x.slots.all R5.ok = true := x_ok_slots hx
  have a2 : y.slots.all R5.ok = true := x_ok_slots hy
  obtain ⟨s1, e⟩ := slots_inj a1 a2 (okT_lens hx hy k) (sp x u) (sp y v) e
  have fin : x.queue = y.queue ∧ x.to = y.to ∧ u = v := by
    by_cases h5 : x.kind = 5
    · rw [if_pos h5, if_pos (by omega), okT_q hx (by omega), okT_q hy (by omega)] at e
      simp only [List.flatMap_nil, List.nil_append, List.cons_append, List.cons.injEq, true_and] at e
      have t1 := okT_to hx h5
      have t2 := okT_to hy (by omega)
      obtain ⟨e5, e6⟩ := word_eq (dec_word (by omega)) (dec_word (by omega)) (sep_n _) (sep_n _) e
      exact ⟨by rw [okT_q hx (by omega), okT_q hy (by omega)], dec_inj (by omega) (by omega) e5, by simpa using e6⟩
    · rw [if_neg h5, if_neg (by omega)] at e
      simp only [List.nil_append, List.cons_append] at e
      obtain ⟨e5, e6⟩ := queue_inj (x_okT_queue hx).2 (x_okT_queue hy).2 e
      exact ⟨e5, by rw [x_okT_to0 hx h5, x_okT_to0 hy (by omega)], e6⟩
  obtain ⟨f1, f2, f3⟩ := fin
  refine ⟨?_, f3⟩
  obtain ⟨ka, sa, va, ra, na, la, qa, ta⟩ := x
  obtain ⟨kb, sb, vb, rb, nb, lb, qb, tb⟩ := y
  dsimp only at k l1 l2 v1 n1 s1 f1 f2
  subst k l1 l2 v1 n1 s1 f1 f2
  rfl
theorem tab_inj {l m : List T8} (hl : ∀ x ∈ l, okT x = true) (hm : ∀ x ∈ m, okT x = true) (i : Nat) (e : tabL i l = tabL i m) : l = m := by
  induction l generalizing m i with
  | nil =>
    cases m with
    | nil => rfl
    | cons y m => simp [tabL] at e
  | cons x l ih =>
    cases m with
    | nil => simp [tabL] at e
    | cons y m =>
      simp only [tabL] at e
      have e := List.append_cancel_left e
      simp only [List.cons.injEq, true_and] at e
      obtain ⟨e1, e2⟩ := thing_inj (hl x (by simp)) (hm y (by simp)) e
      rw [e1, ih (fun z hz => hl z (by simp [hz])) (fun z hz => hm z (by simp [hz])) _ e2]
theorem tab_app (i : Nat) (l m : List T8) : tabL i (l ++ m) = tabL i l ++ tabL (i + l.length) m := by
  induction l generalizing i with
  | nil => rfl
  | cons x l ih =>
    simp only [List.cons_append, tabL, ih, List.append_assoc, List.length_cons]
    rw [show i + 1 + l.length = i + (l.length + 1) by omega]
/-- Lines are as many as things. -/
theorem cnt_word {u : List UInt8} (h : Wd' u) : u.count 10 = 0 := List.count_eq_zero.2 fun hc => (h 10 hc).2 rfl
theorem cnt_slots {s : List R5} (hs : s.all R5.ok = true) : (s.flatMap (fun r => 32 :: rgtL r)).count 10 = 0 := by
  induction s with
  | nil => rfl
  | cons a s ih =>
    simp only [List.all_cons, Bool.and_eq_true] at hs
    simp only [List.flatMap_cons, List.count_append, List.count_cons, ih hs.2, cnt_word (rgt_word hs.1)]
    decide
theorem cnt_queue {s : List Int} (hs : ∀ q ∈ s, 0 ≤ q ∧ q ≤ 99) : (s.flatMap (fun q => 32 :: 60 :: decL q)).count 10 = 0 := by
  induction s with
  | nil => rfl
  | cons a s ih =>
    have a1 := hs a (by simp)
    simp only [List.flatMap_cons, List.count_append, List.count_cons, ih (fun q hq => hs q (by simp [hq])), cnt_word (dec_word (n := a) (by omega))]
    decide
theorem cnt_thing {x : T8} (h : okT x = true) : (thingL x).count 10 = 1 := by
  obtain ⟨x1, x2, x3, x4, x5⟩ := okT_ranges h
  unfold thingL tailL
  simp only [List.count_append, List.count_cons, cnt_word (name_word _), cnt_word (dec_word (n := x.sec) (by omega)), cnt_word (dec_word (n := x.vou) (by omega)), cnt_word (dec_word (n := x.vers) (by omega)), cnt_word (dec_word (n := x.num) (by omega)), cnt_slots (x_ok_slots h), cnt_queue (x_okT_queue h).2]
  by_cases h5 : x.kind = 5
  · have t1 := okT_to h h5
    rw [if_pos h5]
    simp only [List.count_cons, cnt_word (dec_word (n := x.to) (by omega))]
    decide
  · rw [if_neg h5]
    decide
theorem cnt_tab {l : List T8} (hl : ∀ x ∈ l, okT x = true) (i : Nat) (hi : i + l.length ≤ 90) : (tabL i l).count 10 = l.length := by
  induction l generalizing i with
  | nil => rfl
  | cons x l ih =>
    simp only [List.length_cons] at hi
    simp only [tabL, List.count_append, List.count_cons, cnt_word (dec_word (n := (i : Int) + 1) (by omega)), cnt_thing (hl x (by simp)), ih (fun z hz => hl z (by simp [hz])) (i + 1) (by omega), List.length_cons]
    simp
    omega
theorem inR_iff {n a b : Int} : inR n a b = true ↔ a ≤ n ∧ n ≤ b := by simp [inR]
/-- A new thing is one. -/
theorem okT_new {kind sec vou tt : Int} (hl : okL sec vou = true) (hk : 1 ≤ kind ∧ kind ≤ 5) (ht : kind = 5 ∧ 1 ≤ tt ∧ tt ≤ 8 ∨ kind ≠ 5 ∧ tt = 0) : okT (newT kind sec vou tt) = true := by
  have n0 : (⟨0, 0, false, false, false⟩ : R5).ok = true := by decide
  have h : kind = 1 ∨ kind = 2 ∨ kind = 3 ∨ kind = 4 ∨ kind = 5 := by omega
  have o1 : okT1 (newT kind sec vou tt) = true := by
    simp only [okT1, newT, hl, Bool.true_and, List.length_nil]
    rw [show inR kind 1 5 = true from inR_iff.2 hk]
    simp [inR]
  have o2 : okT2 (newT kind sec vou tt) = true := by
    rcases h with rfl | rfl | rfl | rfl | rfl <;> rfl
  have o3 : okT3 (newT kind sec vou tt) = true := by
    rcases h with rfl | rfl | rfl | rfl | rfl <;> rfl
  have o4 : okT4 (newT kind sec vou tt) = true := by
    rcases ht with ⟨rfl, t1, t2⟩ | ⟨h5, rfl⟩
    · simp only [okT4, newT]
      rw [show inR tt 1 8 = true from inR_iff.2 ⟨t1, t2⟩]
      rfl
    · rcases h with rfl | rfl | rfl | rfl | rfl <;> first | rfl | exact absurd rfl h5
  have o5 : (newT kind sec vou tt).slots.all R5.ok = true := by
    unfold newT
    dsimp only
    split
    · decide
    · rfl
  unfold okT
  rw [o1, o2, o3, o4, o5]
  rfl
theorem kindAt_more {l : List T8} {n : Int} (x : T8) (h0 : 0 ≤ n) (h : n < l.length) : kindAt (l ++ [x]) n = kindAt l n := by
  unfold kindAt
  rw [List.getElem?_append_left (by omega)]
theorem versAt_more {l : List T8} {n : Int} (x : T8) (h0 : 0 ≤ n) (h : n < l.length) : versAt (l ++ [x]) n = versAt l n := by
  unfold versAt
  rw [List.getElem?_append_left (by omega)]
theorem gateOk_more {l : List T8} {y : T8} (x : T8) (hy : okT y = true) (h : gateOk l y = true) : gateOk (l ++ [x]) y = true := by
  by_cases h5 : y.kind = 5
  · have t := okT_to hy h5
    unfold gateOk at h ⊢
    simp only [h5, beq_self_eq_true, Bool.true_and, Bool.not_eq_true', Bool.or_eq_false_iff, decide_eq_false_iff_not] at h ⊢
    have hlt : y.to ≤ l.length := by omega
    rw [kindAt_more x (by omega) (by omega)]
    refine ⟨?_, h.2⟩
    simp only [List.length_append, List.length_singleton]
    omega
  · unfold gateOk
    rw [show (y.kind == 5) = false by simpa using h5]
    rfl
theorem rightIn_more {l : List T8} {r : R5} (x : T8) (h : rightIn l r = true) : rightIn (l ++ [x]) r = true := by
  unfold rightIn at h ⊢
  simp only [Bool.not_eq_true', Bool.or_eq_false_iff, decide_eq_false_iff_not, Bool.and_eq_false_imp, decide_eq_true_eq] at h ⊢
  refine ⟨?_, fun h0 => ?_⟩
  · simp only [List.length_append, List.length_singleton]
    omega
  · rw [versAt_more x (by omega) (by omega)]
    exact h.2 h0
theorem rightIn_null (l : List T8) : rightIn l ⟨0, 0, false, false, false⟩ = true := by
  unfold rightIn
  simp
theorem slots_new (l : List T8) (kind sec vou tt : Int) : (newT kind sec vou tt).slots.all (rightIn l) = true := by
  unfold newT
  dsimp only
  split
  · simp [rightIn_null]
  · rfl
theorem tabOk_len {l : List T8} (h : tabOk l = true) : 1 ≤ l.length ∧ l.length ≤ 8 := by
  simp only [tabOk, Bool.and_eq_true] at h
  have := inR_iff.1 h.2
  omega
/-- A table and one thing more. -/
theorem tab_more {l : List T8} {x : T8} (hl : tabOk l = true) (hn : l.length < 8) (hx : okT x = true) (hs : x.slots.all (rightIn (l ++ [x])) = true) : tabOk (l ++ [x]) = gateOk (l ++ [x]) x := by
  have hln := tabOk_len hl
  have hin : inR (l ++ [x]).length 1 8 = true := inR_iff.2 (by simp only [List.length_append, List.length_singleton]; omega)
  have hall : l.all (elemOk (l ++ [x])) = true := by
    simp only [tabOk, Bool.and_eq_true] at hl
    rw [List.all_eq_true] at hl ⊢
    intro y hy
    have := hl.1 y hy
    simp only [elemOk, Bool.and_eq_true] at this ⊢
    refine ⟨this.1, gateOk_more x this.1 this.2.1, ?_⟩
    rw [List.all_eq_true] at this ⊢
    exact fun r hr => rightIn_more x (this.2.2 r hr)
  unfold tabOk
  rw [hin, List.all_append, hall]
  simp [elemOk, hx, hs]
theorem tab_more_plain {l : List T8} {kind sec vou : Int} (hl : tabOk l = true) (hn : l.length < 8) (ho : okL sec vou = true) (hk : 1 ≤ kind ∧ kind ≤ 4) : okT (newT kind sec vou 0) = true ∧ tabOk (l ++ [newT kind sec vou 0]) = true := by
  have hx := okT_new (kind := kind) (tt := 0) ho (by omega) (.inr ⟨by omega, rfl⟩)
  refine ⟨hx, ?_⟩
  rw [tab_more hl hn hx (slots_new _ _ _ _ _)]
  unfold gateOk
  have : ((newT kind sec vou 0).kind == 5) = false := by show (kind == 5) = false; simp; omega
  rw [this]
  rfl
theorem tab_more_gate {l : List T8} {sec vou : Int} {j : Nat} (hl : tabOk l = true) (hn : l.length < 8) (ho : okL sec vou = true) (hj : j < l.length) : okT (newT 5 sec vou ((j : Int) + 1)) = true ∧ tabOk (l ++ [newT 5 sec vou ((j : Int) + 1)]) = (l[j].kind == 1) := by
  have hx := okT_new (kind := 5) (tt := (j : Int) + 1) ho (by omega) (.inl ⟨rfl, by omega, by omega⟩)
  refine ⟨hx, ?_⟩
  rw [tab_more hl hn hx (slots_new _ _ _ _ _)]
  unfold gateOk
  have e1 : (newT 5 sec vou ((j : Int) + 1)).kind = 5 := rfl
  have e2 : (newT 5 sec vou ((j : Int) + 1)).to = (j : Int) + 1 := rfl
  rw [e1, e2]
  have e3 : kindAt (l ++ [newT 5 sec vou ((j : Int) + 1)]) ((j : Int) + 1 - 1) = l[j].kind := by
    rw [kindAt_more _ (by omega) (by omega)]
    exact kindAt_of hj (by omega)
  rw [e3]
  have e4 : decide (((l ++ [newT 5 sec vou ((j : Int) + 1)]).length : Int) < (j : Int) + 1) = false := by
    simp only [List.length_append, List.length_singleton, decide_eq_false_iff_not]
    omega
  rw [e4]
  simp
  cases h : (l[j].kind == 1) <;> simp [bne, h]
/-- The text of a table and a thing more. -/
theorem tab_pre (l : List T8) (x : T8) : ∃ u : List UInt8, tabL 0 (l ++ [x]) = tabL 0 l ++ u ∧ 0 < u.length := by
  refine ⟨tabL (0 + l.length) [x], tab_app 0 l [x], ?_⟩
  simp only [tabL, List.length_append, List.length_cons]
  omega
end Go.Proofs.YtpahahonopiblaaDoor

namespace Go.Proofs.YtpahahonopiblaaDoor
open Go.RowKit
set_option linter.unusedVariables false
set_option maxRecDepth 100000

/-- A text, as its bytes. -/
def B (l : List UInt8) : ByteArray := ⟨l.toArray⟩
theorem B_app (a b : List UInt8) : B a ++ B b = B (a ++ b) := by
  apply ByteArray.ext
  show (B a ++ B b).data = (a ++ b).toArray
  simp [B, ByteArray.data_append]
theorem B_inj {a b : List UInt8} (h : B a = B b) : a = b := by
  have := congrArg (fun x => x.data.toList) h
  simpa [B] using this
theorem B_of (b : ByteArray) : B b.data.toList = b := by
  cases b; simp [B]
theorem decT_B (n : Int) : decT n = B (decL n) := by
  unfold decT decL dig B
  repeat' split
  all_goals rfl
theorem txt_B {s v : Int} (h : okL s v = true) : txt s v = B (decL s ++ 47 :: decL v) := by
  obtain ⟨a0, a3⟩ := okN_bd (okL1 h)
  obtain ⟨b0, b3⟩ := okN_bd (okL2 h)
  rw [txt_ok h]
  unfold decL
  rw [if_neg (by omega), if_pos (by omega), if_neg (by omega), if_pos (by omega)]
  rfl
theorem txtR_B (r : R5) : txtR r.t r.v r.r r.w r.k = B (rgtL r) := (B_of _).symm
/-- A byte read as a text. -/
theorem cvt1 (W : World) (b : Nat) (x : Int) (h : Box W b 5 #[.int .u8 x]) : (convert 29 9 (.slice (some ⟨b, 0, none⟩) 1 1)).run Tryd.prog W = .ok (.string (strOfNums [x])) W :=
  run_convert_bytes_arg _ 29 5 Tryd.underlying29 Tryd.underlying5 b 0 1 1 [x] rfl (fun i hi => by
    obtain rfl : i = 0 := by omega
    exact h.cell 0 _ rfl) 9 Tryd.underlying9
theorem two_txt {n q m : Int} (hq : n / 10 = q) (hm : n % 10 = m) (h : 10 ≤ n ∧ n ≤ 99) : dig q ++ strOfNums [48 + m] = B (decL n) := by
  subst hq hm
  have key : ∀ k : Fin 90, dig (((k.val : Int) + 10) / 10) ++ strOfNums [48 + ((k.val : Int) + 10) % 10] = B (decL ((k.val : Int) + 10)) := by decide +kernel
  have := key ⟨(n - 10).toNat, by omega⟩
  dsimp only at this
  rwa [show (((n - 10).toNat : Nat) : Int) + 10 = n by omega] at this

set_option maxHeartbeats 4000000 in
theorem l6Dec_two (n q m : Int) (w : World) (h : 10 ≤ n ∧ n ≤ 99) (hq : n / 10 = q) (hm : n % 10 = m) :
    Calls Tryd.prog 85 #[.int .i64 n] w fun e w' => e = .returned (.string (B (decL n))) ∧ Below w.heap.size w w' := by
  have Q0 := Lib.hid (show 0 ≤ q by omega)
  have Q9 := Lib.hid (show q ≤ 9 by omega)
  have HT := Lib.hid (two_txt hq hm h)
  have f0 : ¬ n < -9223372036854775807 := by omega
  have f1 : ¬ n < 0 := by omega
  have f2 : ¬ n < 10 := by omega
  have d1 : Int.tdiv n 10 = q := by rw [Int.tdiv_eq_ediv_of_nonneg (by omega)]; exact hq
  have d2 : Int.tmod n 10 = m := by rw [Int.tmod_eq_emod_of_nonneg (by omega)]; exact hm
  have d3 : wrap64 q = q := by unfold wrap64; omega
  have d4 : IntKind.i64.wrap q = q := IntWalk.i64_in _ (by omega)
  have d5 : IntKind.u8.wrap (48 + m) = 48 + m := by rw [IntKind.wrap_u8]; omega
  have d6 : wrap64 (48 + m) = 48 + m := by unfold wrap64; omega
  have d8 : IntKind.i64.wrap (48 + m) = 48 + m := IntWalk.i64_in _ (by omega)
  have d7 : wrap64 m = m := by unfold wrap64; omega
  have zs : (strOfNums [48 + m]).size = 1 := rfl
  have hb0 : Below w.heap.size w w.drew := (Below.refl _ _).drew
  have hbA : Below w.heap.size w (w.alloc (.cells #[.int .u8 (48 + m)] 5)).drew := ((Below.refl _ _).alloc (Nat.le_refl _) _).drew
  have k1 := cvt1 (w.alloc (.cells #[.int .u8 (48 + m)] 5)).drew w.heap.size (48 + m) (Box.fresh w _ _).drew
  have k2 : ∀ W : World, (convert 29 9 (.slice (some ⟨W.heap.size, 0, none⟩) 1 1)).run Tryd.prog (W.alloc (.cells #[.int .u8 (48 + m)] 5)) = .ok (.string (strOfNums [48 + m])) (W.alloc (.cells #[.int .u8 (48 + m)] 5)) := fun W => cvt1 _ _ _ (Box.fresh W _ _)
  clear h hq hm
  go_enter Tryd.func85, Tryd.ntmps85
  go_upto_region 7 with fail
  go_region_with (go_at_call 85; refine (l6Dec_any q _ Q0.out Q9.out).mono ?_; rintro e y ⟨rfl, hb⟩; (try (have bz := (Box.fresh w 5 #[.int .u8 (48 + m)]).drew.stay hb; have kz := cvt1 y w.heap.size (48 + m) bz; clear bz)); have HB := Lib.hid hb; clear hb)
  all_goals
    go_wp2
    go_ret
    refine ⟨by rw [← HT.out]; rfl, ?_⟩
    first | exact (hb0.trans HB.out).alloc (hb0.trans HB.out).size _ | exact hbA.trans (HB.out.mono (by rw [World.size_drew]; simp)) | exact hb0.trans HB.out
end Go.Proofs.YtpahahonopiblaaDoor

namespace Go.Proofs.YtpahahonopiblaaDoor
open Go.RowKit
set_option linter.unusedVariables false
set_option maxRecDepth 100000

/-- A short number in decimals, as the model writes it. -/
theorem l6Dec_all (n : Int) (w : World) (h : -9 ≤ n ∧ n ≤ 99) :
    Calls Tryd.prog 85 #[.int .i64 n] w fun e w' => e = .returned (.string (B (decL n))) ∧ Below w.heap.size w w' := by
  by_cases h0 : n < 0
  · have M0 := Lib.hid (show 0 ≤ -n by omega)
    have M9 := Lib.hid (show -n ≤ 9 by omega)
    have HT := Lib.hid (show (⟨#[45]⟩ : ByteArray) ++ dig (-n) = B (decL n) by
      have e : dig (-n) = B [(48 + (-n).toNat).toUInt8] := rfl
      rw [e, show (⟨#[45]⟩ : ByteArray) = B [45] from rfl, B_app]
      unfold decL
      rw [if_pos h0]; rfl)
    have f0 : ¬ n < -9223372036854775807 := by omega
    have d1 : wrap64 (-n) = -n := by unfold wrap64; omega
    have d2 : IntKind.i64.wrap (-n) = -n := IntWalk.i64_in _ (by omega)
    clear h
    go_enter Tryd.func85, Tryd.ntmps85
    go_wp2_with fail
    refine (l6Dec_any (-n) _ M0.out M9.out).mono ?_
    rintro e y ⟨rfl, hb⟩
    go_wp2
    go_ret
    exact ⟨by rw [← HT.out]; rfl, hb⟩
  · by_cases h9 : n ≤ 9
    · exact (l6Dec_any n w (by omega) h9).mono fun e w' h2 => ⟨by rw [h2.1, show dig n = B (decL n) by unfold decL dig B; rw [if_neg h0, if_pos (by omega)]], h2.2⟩
    · exact l6Dec_two n _ _ w (by omega) rfl rfl

/-- The names of kinds. -/
abbrev kindNames : Array Value := #[.string ⟨#[]⟩, .string ⟨#[112, 97, 103, 101]⟩, .string ⟨#[110, 111, 100, 101]⟩, .string ⟨#[114, 117, 110]⟩, .string ⟨#[112, 105, 112, 101]⟩, .string ⟨#[103, 97, 116, 101]⟩]
theorem kindName {k : Nat} (h1 : 1 ≤ k) (h5 : k ≤ 5) : kindNames[k]? = some (.string (B (nameL (k : Int)))) := by
  rcases (by omega : k = 1 ∨ k = 2 ∨ k = 3 ∨ k = 4 ∨ k = 5) with rfl | rfl | rfl | rfl | rfl <;> rfl
theorem B_size (l : List UInt8) : (B l).size = l.length := by simp [B, ByteArray.size]
theorem name_len (k : Int) : (B (nameL k)).size ≤ 4 := by
  rw [B_size]; unfold nameL; repeat' split
  all_goals decide
theorem dec_len (n : Int) : (B (decL n)).size ≤ 2 := by
  rw [B_size]; unfold decL; repeat' split
  all_goals simp
theorem rgt_len (r : R5) (h : r.ok = true) : (B (rgtL r)).size ≤ 6 := by
  rw [← txtR_B]
  unfold txtR
  repeat' split
  all_goals (show (_ : Nat) ≤ 6; first | exact Nat.le_refl 6 | exact (by decide : 1 ≤ 6) | exact (by decide : 0 ≤ 6))
theorem lab_len (s v : Int) : (B (decL s ++ 47 :: decL v)).size ≤ 5 := by
  have h1 := dec_len s
  have h2 := dec_len v
  rw [B_size] at *
  simp only [List.length_append, List.length_cons]
  omega
/-- What stands ahead of a thing's rights. -/
def headL (x : T8) : List UInt8 := nameL x.kind ++ 32 :: (decL x.sec ++ 47 :: decL x.vou) ++ 32 :: (decL x.vers ++ 32 :: decL x.num)

def slotsL (l : List R5) : List UInt8 := l.flatMap (fun r => 32 :: rgtL r)
def queueL (l : List Int) : List UInt8 := l.flatMap (fun q => 32 :: 60 :: decL q)
theorem slotsL_more (l : List R5) (k : Nat) (h : k < l.length) : slotsL (l.take (k + 1)) = slotsL (l.take k) ++ (32 :: rgtL l[k]) := by
  simp only [slotsL, List.take_succ_eq_append_getElem h, List.flatMap_append, List.flatMap_cons, List.flatMap_nil, List.append_nil]
theorem queueL_more (l : List Int) (k : Nat) (h : k < l.length) : queueL (l.take (k + 1)) = queueL (l.take k) ++ (32 :: 60 :: decL l[k]) := by
  simp only [queueL, List.take_succ_eq_append_getElem h, List.flatMap_append, List.flatMap_cons, List.flatMap_nil, List.append_nil]
theorem rgtL_len (r : R5) : (rgtL r).length ≤ 6 := by
  show (txtR r.t r.v r.r r.w r.k).data.toList.length ≤ 6
  unfold txtR
  repeat' split
  all_goals simp
theorem slotsL_len (l : List R5) : (slotsL l).length ≤ 7 * l.length := by
  induction l with
  | nil => simp [slotsL]
  | cons a l ih =>
    have := rgtL_len a
    simp only [slotsL, List.flatMap_cons, List.length_append, List.length_cons] at ih ⊢
    omega
theorem decL_len (n : Int) : (decL n).length ≤ 2 := by
  have := dec_len n
  rwa [B_size] at this
theorem queueL_len (l : List Int) : (queueL l).length ≤ 4 * l.length := by
  induction l with
  | nil => simp [queueL]
  | cons a l ih =>
    have := decL_len a
    simp only [queueL, List.flatMap_cons, List.length_append, List.length_cons] at ih ⊢
    omega
theorem head_len (x : T8) : (headL x).length ≤ 16 := by
  have h1 : (nameL x.kind).length ≤ 4 := by have := name_len x.kind; rwa [B_size] at this
  have h2 := decL_len x.sec
  have h3 := decL_len x.vou
  have h4 := decL_len x.vers
  have h5 := decL_len x.num
  simp only [headL, List.length_append, List.length_cons]
  omega
theorem thingL_head (x : T8) : thingL x = headL x ++ slotsL x.slots ++ queueL x.queue ++ ((if x.kind = 5 then 32 :: 62 :: decL x.to else []) ++ [10]) := by
  simp only [thingL, tailL, headL, slotsL, queueL, List.append_assoc, List.cons_append]
def TH1W (w : World) (x : T8) (s q : Sl) (kd : Nat) (S1 S2 S3 S4 : ByteArray) (y : World) : Prop := Kn w [(w.heap.size, 37, x.cs s q)] y
def TH1 (w : World) (x : T8) (s q : Sl) (kd : Nat) (S1 S2 S3 S4 : ByteArray) (L : Nat → Bool) (A : Act) (y : World) : Prop := ∃ v3 v6 v7 v8 v9 v10 v11 v12 v13 v14 v15 v16 v17 v18 v19 v20 v21 v22 v23 v24 v25 : Value, A = { tmps := #[x.val s q, .pointer (some ⟨w.heap.size, 0, none⟩), .string ⟨#[]⟩, v3, undef, undef, v6, v7, v8, v9, v10, v11, v12, v13, v14, v15, v16, v17, v18, v19, v20, v21, v22, v23, v24, v25, undef, undef, undef, undef, undef, undef, undef, undef, undef, undef, undef, undef, undef, undef, undef, undef, undef, undef, undef, undef, undef, undef, undef, undef, undef, undef, undef, undef, undef, undef, undef, undef, undef, undef, undef, undef, undef, undef, undef, undef, undef, undef, undef], defers := [] } ∧ TH1W w x s q kd S1 S2 S3 S4 y ∧ (L 0 = true → ∃ b, v6 = .slice (some ⟨b, 0, none⟩) 6 6 ∧ Box y b 9 kindNames) ∧ (L 1 = true → v7 = .pointer (some ⟨w.heap.size, 0, none⟩)) ∧ (L 2 = true → v8 = .int .i64 (kd : Int)) ∧ (L 3 = true → ∃ b, v9 = .pointer (some ⟨b, kd, none⟩) ∧ Box y b 9 kindNames) ∧ (L 4 = true → v10 = .string (S1)) ∧ (L 5 = true → v11 = .string (S1 ++ ⟨#[32]⟩)) ∧ (L 6 = true → v12 = .pointer (some ⟨w.heap.size, 1, none⟩)) ∧ (L 7 = true → v13 = lab x.sec x.vou) ∧ (L 8 = true → v14 = .string S2) ∧ (L 9 = true → v15 = .string (S1 ++ ⟨#[32]⟩ ++ S2)) ∧ (L 10 = true → v16 = .string (S1 ++ ⟨#[32]⟩ ++ S2 ++ ⟨#[32]⟩)) ∧ (L 11 = true → v17 = .pointer (some ⟨w.heap.size, 3, none⟩)) ∧ (L 12 = true → v18 = .int .i64 x.vers) ∧ (L 13 = true → v19 = .string S3) ∧ (L 14 = true → v20 = .string (S1 ++ ⟨#[32]⟩ ++ S2 ++ ⟨#[32]⟩ ++ S3)) ∧ (L 15 = true → v21 = .string (S1 ++ ⟨#[32]⟩ ++ S2 ++ ⟨#[32]⟩ ++ S3 ++ ⟨#[32]⟩)) ∧ (L 16 = true → v22 = .pointer (some ⟨w.heap.size, 4, none⟩)) ∧ (L 17 = true → v23 = .int .i64 x.num) ∧ (L 18 = true → v24 = .string S4) ∧ (L 19 = true → v25 = .string (S1 ++ ⟨#[32]⟩ ++ S2 ++ ⟨#[32]⟩ ++ S3 ++ ⟨#[32]⟩ ++ S4)) ∧ (L 20 = true → v3 = .string (S1 ++ ⟨#[32]⟩ ++ S2 ++ ⟨#[32]⟩ ++ S3 ++ ⟨#[32]⟩ ++ S4))

set_option maxHeartbeats 8000000 in
theorem l3Thing_any (x : T8) (s q : Sl) (w : World) (hx : okT x = true) (hR : HasR w s x.slots) (hQ : HasQ w q x.queue) :
    Calls Tryd.prog 86 #[x.val s q] w fun e w' => e = .returned (.string (B (thingL x))) ∧ Below w.heap.size w w' := by
  obtain ⟨k1, k2, k3, k4, k5⟩ := okT_ranges hx
  have OL := Lib.hid (x_okT_lab hx)
  have OV := Lib.hid (show -9 ≤ x.vers ∧ x.vers ≤ 99 by omega)
  have ON := Lib.hid (show -9 ≤ x.num ∧ x.num ≤ 99 by omega)
  obtain ⟨kd, hkd, hk1, hk5⟩ : ∃ kd : Nat, x.kind = kd ∧ 1 ≤ kd ∧ kd ≤ 5 := ⟨x.kind.toNat, by rw [inR_iff] at k1; omega⟩
  have HKN := Lib.hid (kindName hk1 hk5)
  obtain ⟨Y, hY⟩ : ∃ Y, w.alloc (.cells (x.cs s q) 37) = Y := ⟨_, rfl⟩
  have K0 := (Kn.refl (w := w)).new 37 (x.cs s q)
  rw [hY] at K0
  have hkd' : (kd : Int) < 6 := by omega
  have wk : IntKind.i64.wrap (kd : Int) = (kd : Int) := IntWalk.i64_in _ (by omega)
  obtain ⟨S1, hS1⟩ : ∃ S1, B (nameL (kd : Int)) = S1 := ⟨_, rfl⟩
  obtain ⟨S2, hS2⟩ : ∃ S2, txt x.sec x.vou = S2 := ⟨_, rfl⟩
  obtain ⟨S3, hS3⟩ : ∃ S3, B (decL x.vers) = S3 := ⟨_, rfl⟩
  obtain ⟨S4, hS4⟩ : ∃ S4, B (decL x.num) = S4 := ⟨_, rfl⟩
  have z1 : S1.size ≤ 4 := hS1 ▸ name_len _
  have z2 : S2.size ≤ 5 := hS2 ▸ txt_B OL.out ▸ lab_len _ _
  have z3 : S3.size ≤ 2 := hS3 ▸ dec_len _
  have z4 : S4.size ≤ 2 := hS4 ▸ dec_len _
  have y1 : ¬ 9223372036854775807 < S1.size + 1 := by omega
  have y2 : ¬ 9223372036854775807 < S1.size + 1 + S2.size := by omega
  have y3 : ¬ 9223372036854775807 < S1.size + 1 + S2.size + 1 := by omega
  have y4 : ¬ 9223372036854775807 < S1.size + 1 + S2.size + 1 + S3.size := by omega
  have y5 : ¬ 9223372036854775807 < S1.size + 1 + S2.size + 1 + S3.size + 1 := by omega
  have y6 : ¬ 9223372036854775807 < S1.size + 1 + S2.size + 1 + S3.size + 1 + S4.size := by omega
  have HE := Lib.hid (show S1 ++ ⟨#[32]⟩ ++ S2 ++ ⟨#[32]⟩ ++ S3 ++ ⟨#[32]⟩ ++ S4 = B (headL x) by
    rw [← hS1, ← hS2, ← hS3, ← hS4, txt_B OL.out, show (⟨#[32]⟩ : ByteArray) = B [32] from rfl]
    simp only [B_app, headL, hkd, List.append_assoc, List.cons_append, List.nil_append])
  rw [hS1] at HKN
  have G1 := Lib.hid (show ∀ y, Calls Tryd.prog 112 #[lab x.sec x.vou] y fun e w' => e = .returned (.string S2) ∧ Below y.heap.size y w' from fun y => hS2 ▸ specText_any x.sec x.vou y)
  have G2 := Lib.hid (show ∀ y, Calls Tryd.prog 85 #[.int .i64 x.vers] y fun e w' => e = .returned (.string S3) ∧ Below y.heap.size y w' from fun y => hS3 ▸ l6Dec_all x.vers y OV.out)
  have G3 := Lib.hid (show ∀ y, Calls Tryd.prog 85 #[.int .i64 x.num] y fun e w' => e = .returned (.string S4) ∧ Below y.heap.size y w' from fun y => hS4 ▸ l6Dec_all x.num y ON.out)
  have HR := Lib.hid hR
  have HQ := Lib.hid hQ
  have HX := Lib.hid hx
  have HK0 := Lib.hid K0
  clear K0 hS1 hS2 hS3 hS4 z1 z2 z3 z4 k1 k2 k3 k4 k5 OV ON hk1 hk5 hR hQ hx
  go_enter Tryd.func86, Tryd.ntmps86
  go_upto_region 1 with fail
  refine wp_region_steps (by kernel_rfl) (by kernel_rfl) (by kernel_rfl) (TH1 w x s q kd S1 S2 S3 S4) ?_ ⟨?_, ?_, ?_, ?_, ?_, ?_, ?_, ?_, ?_, ?_, ?_, ?_, ?_, ?_, ?_, ?_, ?_, ?_, ?_, ?_, ?_, trivial⟩ ?_
  · exact ⟨_, _, _, _, _, _, _, _, _, _, _, _, _, _, _, _, _, _, _, _, _, rfl, Kn.drew HK0.out, fun h => absurd h (by decide), fun h => absurd h (by decide), fun h => absurd h (by decide), fun h => absurd h (by decide), fun h => absurd h (by decide), fun h => absurd h (by decide), fun h => absurd h (by decide), fun h => absurd h (by decide), fun h => absurd h (by decide), fun h => absurd h (by decide), fun h => absurd h (by decide), fun h => absurd h (by decide), fun h => absurd h (by decide), fun h => absurd h (by decide), fun h => absurd h (by decide), fun h => absurd h (by decide), fun h => absurd h (by decide), fun h => absurd h (by decide), fun h => absurd h (by decide), fun h => absurd h (by decide), fun h => absurd h (by decide)⟩
  · rintro L A X ⟨v3, v6, v7, v8, v9, v10, v11, v12, v13, v14, v15, v16, v17, v18, v19, v20, v21, v22, v23, v24, v25, rfl, hw, f0, f1, f2, f3, f4, f5, f6, f7, f8, f9, f10, f11, f12, f13, f14, f15, f16, f17, f18, f19, f20⟩ hL hdep K hK
    clear hdep
    have F0 := Lib.hid f0
    have F1 := Lib.hid f1
    have F2 := Lib.hid f2
    have F3 := Lib.hid f3
    have F4 := Lib.hid f4
    have F5 := Lib.hid f5
    have F6 := Lib.hid f6
    have F7 := Lib.hid f7
    have F8 := Lib.hid f8
    have F9 := Lib.hid f9
    have F10 := Lib.hid f10
    have F11 := Lib.hid f11
    have F12 := Lib.hid f12
    have F13 := Lib.hid f13
    have F14 := Lib.hid f14
    have F15 := Lib.hid f15
    have F16 := Lib.hid f16
    have F17 := Lib.hid f17
    have F18 := Lib.hid f18
    have F19 := Lib.hid f19
    have F20 := Lib.hid f20
    have HW := Lib.hid hw
    clear hw f0 f1 f2 f3 f4 f5 f6 f7 f8 f9 f10 f11 f12 f13 f14 f15 f16 f17 f18 f19 f20
    go_simp
    refine hK.out _ _ ?_
    exact ⟨_, _, _, _, _, _, _, _, _, _, _, _, _, _, _, _, _, _, _, _, _, rfl, Kn.past HW.out _, fun _ => ⟨_, rfl, Box.fresh _ _ _⟩, fun hk => (F1.out ((upd_ne (by decide)).symm.trans hk)), fun hk => (F2.out ((upd_ne (by decide)).symm.trans hk)), fun hk => (let ⟨b, e, hB⟩ := (F3.out ((upd_ne (by decide)).symm.trans hk)); ⟨b, e, hB.past _⟩), fun hk => (F4.out ((upd_ne (by decide)).symm.trans hk)), fun hk => (F5.out ((upd_ne (by decide)).symm.trans hk)), fun hk => (F6.out ((upd_ne (by decide)).symm.trans hk)), fun hk => (F7.out ((upd_ne (by decide)).symm.trans hk)), fun hk => (F8.out ((upd_ne (by decide)).symm.trans hk)), fun hk => (F9.out ((upd_ne (by decide)).symm.trans hk)), fun hk => (F10.out ((upd_ne (by decide)).symm.trans hk)), fun hk => (F11.out ((upd_ne (by decide)).symm.trans hk)), fun hk => (F12.out ((upd_ne (by decide)).symm.trans hk)), fun hk => (F13.out ((upd_ne (by decide)).symm.trans hk)), fun hk => (F14.out ((upd_ne (by decide)).symm.trans hk)), fun hk => (F15.out ((upd_ne (by decide)).symm.trans hk)), fun hk => (F16.out ((upd_ne (by decide)).symm.trans hk)), fun hk => (F17.out ((upd_ne (by decide)).symm.trans hk)), fun hk => (F18.out ((upd_ne (by decide)).symm.trans hk)), fun hk => (F19.out ((upd_ne (by decide)).symm.trans hk)), fun hk => (F20.out ((upd_ne (by decide)).symm.trans hk))⟩
  · rintro L A X ⟨v3, v6, v7, v8, v9, v10, v11, v12, v13, v14, v15, v16, v17, v18, v19, v20, v21, v22, v23, v24, v25, rfl, hw, f0, f1, f2, f3, f4, f5, f6, f7, f8, f9, f10, f11, f12, f13, f14, f15, f16, f17, f18, f19, f20⟩ hL hdep K hK
    clear hdep
    have F0 := Lib.hid f0
    have F1 := Lib.hid f1
    have F2 := Lib.hid f2
    have F3 := Lib.hid f3
    have F4 := Lib.hid f4
    have F5 := Lib.hid f5
    have F6 := Lib.hid f6
    have F7 := Lib.hid f7
    have F8 := Lib.hid f8
    have F9 := Lib.hid f9
    have F10 := Lib.hid f10
    have F11 := Lib.hid f11
    have F12 := Lib.hid f12
    have F13 := Lib.hid f13
    have F14 := Lib.hid f14
    have F15 := Lib.hid f15
    have F16 := Lib.hid f16
    have F17 := Lib.hid f17
    have F18 := Lib.hid f18
    have F19 := Lib.hid f19
    have F20 := Lib.hid f20
    have HW := Lib.hid hw
    clear hw f0 f1 f2 f3 f4 f5 f6 f7 f8 f9 f10 f11 f12 f13 f14 f15 f16 f17 f18 f19 f20
    go_simp
    refine hK.out _ _ ?_
    exact ⟨_, _, _, _, _, _, _, _, _, _, _, _, _, _, _, _, _, _, _, _, _, rfl, HW.out, fun hk => (F0.out ((upd_ne (by decide)).symm.trans hk)), fun _ => rfl, fun hk => (F2.out ((upd_ne (by decide)).symm.trans hk)), fun hk => (F3.out ((upd_ne (by decide)).symm.trans hk)), fun hk => (F4.out ((upd_ne (by decide)).symm.trans hk)), fun hk => (F5.out ((upd_ne (by decide)).symm.trans hk)), fun hk => (F6.out ((upd_ne (by decide)).symm.trans hk)), fun hk => (F7.out ((upd_ne (by decide)).symm.trans hk)), fun hk => (F8.out ((upd_ne (by decide)).symm.trans hk)), fun hk => (F9.out ((upd_ne (by decide)).symm.trans hk)), fun hk => (F10.out ((upd_ne (by decide)).symm.trans hk)), fun hk => (F11.out ((upd_ne (by decide)).symm.trans hk)), fun hk => (F12.out ((upd_ne (by decide)).symm.trans hk)), fun hk => (F13.out ((upd_ne (by decide)).symm.trans hk)), fun hk => (F14.out ((upd_ne (by decide)).symm.trans hk)), fun hk => (F15.out ((upd_ne (by decide)).symm.trans hk)), fun hk => (F16.out ((upd_ne (by decide)).symm.trans hk)), fun hk => (F17.out ((upd_ne (by decide)).symm.trans hk)), fun hk => (F18.out ((upd_ne (by decide)).symm.trans hk)), fun hk => (F19.out ((upd_ne (by decide)).symm.trans hk)), fun hk => (F20.out ((upd_ne (by decide)).symm.trans hk))⟩
  · rintro L A X ⟨v3, v6, v7, v8, v9, v10, v11, v12, v13, v14, v15, v16, v17, v18, v19, v20, v21, v22, v23, v24, v25, rfl, hw, f0, f1, f2, f3, f4, f5, f6, f7, f8, f9, f10, f11, f12, f13, f14, f15, f16, f17, f18, f19, f20⟩ hL hdep K hK
    simp at hdep
    have d1 : L 1 = true := by first | exact hdep | exact hdep.1 | exact hdep.2 | exact hdep.2.1 | exact hdep.2.2 | exact hdep.2.2.1 | exact hdep.2.2.2
    have e1 := (f1 d1); subst e1
    clear hdep
    have c : X.cell? ⟨w.heap.size, 0, none⟩ = some (.int .i64 (kd : Int)) := by rw [← hkd]; exact Kn.c hw (b := w.heap.size) (T := 37) (vs := x.cs s q) (by simp) 0 _ rfl
    have F0 := Lib.hid f0
    have F1 := Lib.hid f1
    have F2 := Lib.hid f2
    have F3 := Lib.hid f3
    have F4 := Lib.hid f4
    have F5 := Lib.hid f5
    have F6 := Lib.hid f6
    have F7 := Lib.hid f7
    have F8 := Lib.hid f8
    have F9 := Lib.hid f9
    have F10 := Lib.hid f10
    have F11 := Lib.hid f11
    have F12 := Lib.hid f12
    have F13 := Lib.hid f13
    have F14 := Lib.hid f14
    have F15 := Lib.hid f15
    have F16 := Lib.hid f16
    have F17 := Lib.hid f17
    have F18 := Lib.hid f18
    have F19 := Lib.hid f19
    have F20 := Lib.hid f20
    have HW := Lib.hid hw
    clear hw f0 f1 f2 f3 f4 f5 f6 f7 f8 f9 f10 f11 f12 f13 f14 f15 f16 f17 f18 f19 f20
    go_simp
    refine hK.out _ _ ?_
    exact ⟨_, _, _, _, _, _, _, _, _, _, _, _, _, _, _, _, _, _, _, _, _, rfl, HW.out, fun hk => (F0.out ((upd_ne (by decide)).symm.trans hk)), fun _ => rfl, fun _ => rfl, fun hk => (F3.out ((upd_ne (by decide)).symm.trans hk)), fun hk => (F4.out ((upd_ne (by decide)).symm.trans hk)), fun hk => (F5.out ((upd_ne (by decide)).symm.trans hk)), fun hk => (F6.out ((upd_ne (by decide)).symm.trans hk)), fun hk => (F7.out ((upd_ne (by decide)).symm.trans hk)), fun hk => (F8.out ((upd_ne (by decide)).symm.trans hk)), fun hk => (F9.out ((upd_ne (by decide)).symm.trans hk)), fun hk => (F10.out ((upd_ne (by decide)).symm.trans hk)), fun hk => (F11.out ((upd_ne (by decide)).symm.trans hk)), fun hk => (F12.out ((upd_ne (by decide)).symm.trans hk)), fun hk => (F13.out ((upd_ne (by decide)).symm.trans hk)), fun hk => (F14.out ((upd_ne (by decide)).symm.trans hk)), fun hk => (F15.out ((upd_ne (by decide)).symm.trans hk)), fun hk => (F16.out ((upd_ne (by decide)).symm.trans hk)), fun hk => (F17.out ((upd_ne (by decide)).symm.trans hk)), fun hk => (F18.out ((upd_ne (by decide)).symm.trans hk)), fun hk => (F19.out ((upd_ne (by decide)).symm.trans hk)), fun hk => (F20.out ((upd_ne (by decide)).symm.trans hk))⟩
  · rintro L A X ⟨v3, v6, v7, v8, v9, v10, v11, v12, v13, v14, v15, v16, v17, v18, v19, v20, v21, v22, v23, v24, v25, rfl, hw, f0, f1, f2, f3, f4, f5, f6, f7, f8, f9, f10, f11, f12, f13, f14, f15, f16, f17, f18, f19, f20⟩ hL hdep K hK
    simp at hdep
    have d0 : L 0 = true := by first | exact hdep | exact hdep.1 | exact hdep.2 | exact hdep.2.1 | exact hdep.2.2 | exact hdep.2.2.1 | exact hdep.2.2.2
    have d2 : L 2 = true := by first | exact hdep | exact hdep.1 | exact hdep.2 | exact hdep.2.1 | exact hdep.2.2 | exact hdep.2.2.1 | exact hdep.2.2.2
    obtain ⟨b0, rfl, hB0⟩ := (f0 d0)
    have e2 := (f2 d2); subst e2
    clear hdep
    have F0 := Lib.hid f0
    have F1 := Lib.hid f1
    have F2 := Lib.hid f2
    have F3 := Lib.hid f3
    have F4 := Lib.hid f4
    have F5 := Lib.hid f5
    have F6 := Lib.hid f6
    have F7 := Lib.hid f7
    have F8 := Lib.hid f8
    have F9 := Lib.hid f9
    have F10 := Lib.hid f10
    have F11 := Lib.hid f11
    have F12 := Lib.hid f12
    have F13 := Lib.hid f13
    have F14 := Lib.hid f14
    have F15 := Lib.hid f15
    have F16 := Lib.hid f16
    have F17 := Lib.hid f17
    have F18 := Lib.hid f18
    have F19 := Lib.hid f19
    have F20 := Lib.hid f20
    have HW := Lib.hid hw
    clear hw f0 f1 f2 f3 f4 f5 f6 f7 f8 f9 f10 f11 f12 f13 f14 f15 f16 f17 f18 f19 f20
    go_simp
    refine hK.out _ _ ?_
    exact ⟨_, _, _, _, _, _, _, _, _, _, _, _, _, _, _, _, _, _, _, _, _, rfl, HW.out, fun hk => (F0.out ((upd_ne (by decide)).symm.trans hk)), fun hk => (F1.out ((upd_ne (by decide)).symm.trans hk)), fun _ => rfl, fun _ => ⟨b0, rfl, hB0⟩, fun hk => (F4.out ((upd_ne (by decide)).symm.trans hk)), fun hk => (F5.out ((upd_ne (by decide)).symm.trans hk)), fun hk => (F6.out ((upd_ne (by decide)).symm.trans hk)), fun hk => (F7.out ((upd_ne (by decide)).symm.trans hk)), fun hk => (F8.out ((upd_ne (by decide)).symm.trans hk)), fun hk => (F9.out ((upd_ne (by decide)).symm.trans hk)), fun hk => (F10.out ((upd_ne (by decide)).symm.trans hk)), fun hk => (F11.out ((upd_ne (by decide)).symm.trans hk)), fun hk => (F12.out ((upd_ne (by decide)).symm.trans hk)), fun hk => (F13.out ((upd_ne (by decide)).symm.trans hk)), fun hk => (F14.out ((upd_ne (by decide)).symm.trans hk)), fun hk => (F15.out ((upd_ne (by decide)).symm.trans hk)), fun hk => (F16.out ((upd_ne (by decide)).symm.trans hk)), fun hk => (F17.out ((upd_ne (by decide)).symm.trans hk)), fun hk => (F18.out ((upd_ne (by decide)).symm.trans hk)), fun hk => (F19.out ((upd_ne (by decide)).symm.trans hk)), fun hk => (F20.out ((upd_ne (by decide)).symm.trans hk))⟩
  · rintro L A X ⟨v3, v6, v7, v8, v9, v10, v11, v12, v13, v14, v15, v16, v17, v18, v19, v20, v21, v22, v23, v24, v25, rfl, hw, f0, f1, f2, f3, f4, f5, f6, f7, f8, f9, f10, f11, f12, f13, f14, f15, f16, f17, f18, f19, f20⟩ hL hdep K hK
    simp at hdep
    have d3 : L 3 = true := by first | exact hdep | exact hdep.1 | exact hdep.2 | exact hdep.2.1 | exact hdep.2.2 | exact hdep.2.2.1 | exact hdep.2.2.2
    obtain ⟨b3, rfl, hB3⟩ := (f3 d3)
    clear hdep
    have c := hB3.cell kd _ HKN.out
    have F0 := Lib.hid f0
    have F1 := Lib.hid f1
    have F2 := Lib.hid f2
    have F3 := Lib.hid f3
    have F4 := Lib.hid f4
    have F5 := Lib.hid f5
    have F6 := Lib.hid f6
    have F7 := Lib.hid f7
    have F8 := Lib.hid f8
    have F9 := Lib.hid f9
    have F10 := Lib.hid f10
    have F11 := Lib.hid f11
    have F12 := Lib.hid f12
    have F13 := Lib.hid f13
    have F14 := Lib.hid f14
    have F15 := Lib.hid f15
    have F16 := Lib.hid f16
    have F17 := Lib.hid f17
    have F18 := Lib.hid f18
    have F19 := Lib.hid f19
    have F20 := Lib.hid f20
    have HW := Lib.hid hw
    clear hw f0 f1 f2 f3 f4 f5 f6 f7 f8 f9 f10 f11 f12 f13 f14 f15 f16 f17 f18 f19 f20
    go_simp
    refine hK.out _ _ ?_
    exact ⟨_, _, _, _, _, _, _, _, _, _, _, _, _, _, _, _, _, _, _, _, _, rfl, HW.out, fun hk => (F0.out ((upd_ne (by decide)).symm.trans hk)), fun hk => (F1.out ((upd_ne (by decide)).symm.trans hk)), fun hk => (F2.out ((upd_ne (by decide)).symm.trans hk)), fun hk => (F3.out ((upd_ne (by decide)).symm.trans hk)), fun _ => rfl, fun hk => (F5.out ((upd_ne (by decide)).symm.trans hk)), fun hk => (F6.out ((upd_ne (by decide)).symm.trans hk)), fun hk => (F7.out ((upd_ne (by decide)).symm.trans hk)), fun hk => (F8.out ((upd_ne (by decide)).symm.trans hk)), fun hk => (F9.out ((upd_ne (by decide)).symm.trans hk)), fun hk => (F10.out ((upd_ne (by decide)).symm.trans hk)), fun hk => (F11.out ((upd_ne (by decide)).symm.trans hk)), fun hk => (F12.out ((upd_ne (by decide)).symm.trans hk)), fun hk => (F13.out ((upd_ne (by decide)).symm.trans hk)), fun hk => (F14.out ((upd_ne (by decide)).symm.trans hk)), fun hk => (F15.out ((upd_ne (by decide)).symm.trans hk)), fun hk => (F16.out ((upd_ne (by decide)).symm.trans hk)), fun hk => (F17.out ((upd_ne (by decide)).symm.trans hk)), fun hk => (F18.out ((upd_ne (by decide)).symm.trans hk)), fun hk => (F19.out ((upd_ne (by decide)).symm.trans hk)), fun hk => (F20.out ((upd_ne (by decide)).symm.trans hk))⟩
  · rintro L A X ⟨v3, v6, v7, v8, v9, v10, v11, v12, v13, v14, v15, v16, v17, v18, v19, v20, v21, v22, v23, v24, v25, rfl, hw, f0, f1, f2, f3, f4, f5, f6, f7, f8, f9, f10, f11, f12, f13, f14, f15, f16, f17, f18, f19, f20⟩ hL hdep K hK
    simp at hdep
    have d4 : L 4 = true := by first | exact hdep | exact hdep.1 | exact hdep.2 | exact hdep.2.1 | exact hdep.2.2 | exact hdep.2.2.1 | exact hdep.2.2.2
    have e4 := (f4 d4); subst e4
    clear hdep
    have F0 := Lib.hid f0
    have F1 := Lib.hid f1
    have F2 := Lib.hid f2
    have F3 := Lib.hid f3
    have F4 := Lib.hid f4
    have F5 := Lib.hid f5
    have F6 := Lib.hid f6
    have F7 := Lib.hid f7
    have F8 := Lib.hid f8
    have F9 := Lib.hid f9
    have F10 := Lib.hid f10
    have F11 := Lib.hid f11
    have F12 := Lib.hid f12
    have F13 := Lib.hid f13
    have F14 := Lib.hid f14
    have F15 := Lib.hid f15
    have F16 := Lib.hid f16
    have F17 := Lib.hid f17
    have F18 := Lib.hid f18
    have F19 := Lib.hid f19
    have F20 := Lib.hid f20
    have HW := Lib.hid hw
    clear hw f0 f1 f2 f3 f4 f5 f6 f7 f8 f9 f10 f11 f12 f13 f14 f15 f16 f17 f18 f19 f20
    go_simp
    refine hK.out _ _ ?_
    exact ⟨_, _, _, _, _, _, _, _, _, _, _, _, _, _, _, _, _, _, _, _, _, rfl, HW.out, fun hk => (F0.out ((upd_ne (by decide)).symm.trans hk)), fun hk => (F1.out ((upd_ne (by decide)).symm.trans hk)), fun hk => (F2.out ((upd_ne (by decide)).symm.trans hk)), fun hk => (F3.out ((upd_ne (by decide)).symm.trans hk)), fun _ => rfl, fun _ => rfl, fun hk => (F6.out ((upd_ne (by decide)).symm.trans hk)), fun hk => (F7.out ((upd_ne (by decide)).symm.trans hk)), fun hk => (F8.out ((upd_ne (by decide)).symm.trans hk)), fun hk => (F9.out ((upd_ne (by decide)).symm.trans hk)), fun hk => (F10.out ((upd_ne (by decide)).symm.trans hk)), fun hk => (F11.out ((upd_ne (by decide)).symm.trans hk)), fun hk => (F12.out ((upd_ne (by decide)).symm.trans hk)), fun hk => (F13.out ((upd_ne (by decide)).symm.trans hk)), fun hk => (F14.out ((upd_ne (by decide)).symm.trans hk)), fun hk => (F15.out ((upd_ne (by decide)).symm.trans hk)), fun hk => (F16.out ((upd_ne (by decide)).symm.trans hk)), fun hk => (F17.out ((upd_ne (by decide)).symm.trans hk)), fun hk => (F18.out ((upd_ne (by decide)).symm.trans hk)), fun hk => (F19.out ((upd_ne (by decide)).symm.trans hk)), fun hk => (F20.out ((upd_ne (by decide)).symm.trans hk))⟩
  · rintro L A X ⟨v3, v6, v7, v8, v9, v10, v11, v12, v13, v14, v15, v16, v17, v18, v19, v20, v21, v22, v23, v24, v25, rfl, hw, f0, f1, f2, f3, f4, f5, f6, f7, f8, f9, f10, f11, f12, f13, f14, f15, f16, f17, f18, f19, f20⟩ hL hdep K hK
    clear hdep
    have F0 := Lib.hid f0
    have F1 := Lib.hid f1
    have F2 := Lib.hid f2
    have F3 := Lib.hid f3
    have F4 := Lib.hid f4
    have F5 := Lib.hid f5
    have F6 := Lib.hid f6
    have F7 := Lib.hid f7
    have F8 := Lib.hid f8
    have F9 := Lib.hid f9
    have F10 := Lib.hid f10
    have F11 := Lib.hid f11
    have F12 := Lib.hid f12
    have F13 := Lib.hid f13
    have F14 := Lib.hid f14
    have F15 := Lib.hid f15
    have F16 := Lib.hid f16
    have F17 := Lib.hid f17
    have F18 := Lib.hid f18
    have F19 := Lib.hid f19
    have F20 := Lib.hid f20
    have HW := Lib.hid hw
    clear hw f0 f1 f2 f3 f4 f5 f6 f7 f8 f9 f10 f11 f12 f13 f14 f15 f16 f17 f18 f19 f20
    go_simp
    refine hK.out _ _ ?_
    exact ⟨_, _, _, _, _, _, _, _, _, _, _, _, _, _, _, _, _, _, _, _, _, rfl, HW.out, fun hk => (F0.out ((upd_ne (by decide)).symm.trans hk)), fun hk => (F1.out ((upd_ne (by decide)).symm.trans hk)), fun hk => (F2.out ((upd_ne (by decide)).symm.trans hk)), fun hk => (F3.out ((upd_ne (by decide)).symm.trans hk)), fun hk => (F4.out ((upd_ne (by decide)).symm.trans hk)), fun hk => (F5.out ((upd_ne (by decide)).symm.trans hk)), fun _ => rfl, fun hk => (F7.out ((upd_ne (by decide)).symm.trans hk)), fun hk => (F8.out ((upd_ne (by decide)).symm.trans hk)), fun hk => (F9.out ((upd_ne (by decide)).symm.trans hk)), fun hk => (F10.out ((upd_ne (by decide)).symm.trans hk)), fun hk => (F11.out ((upd_ne (by decide)).symm.trans hk)), fun hk => (F12.out ((upd_ne (by decide)).symm.trans hk)), fun hk => (F13.out ((upd_ne (by decide)).symm.trans hk)), fun hk => (F14.out ((upd_ne (by decide)).symm.trans hk)), fun hk => (F15.out ((upd_ne (by decide)).symm.trans hk)), fun hk => (F16.out ((upd_ne (by decide)).symm.trans hk)), fun hk => (F17.out ((upd_ne (by decide)).symm.trans hk)), fun hk => (F18.out ((upd_ne (by decide)).symm.trans hk)), fun hk => (F19.out ((upd_ne (by decide)).symm.trans hk)), fun hk => (F20.out ((upd_ne (by decide)).symm.trans hk))⟩
  · rintro L A X ⟨v3, v6, v7, v8, v9, v10, v11, v12, v13, v14, v15, v16, v17, v18, v19, v20, v21, v22, v23, v24, v25, rfl, hw, f0, f1, f2, f3, f4, f5, f6, f7, f8, f9, f10, f11, f12, f13, f14, f15, f16, f17, f18, f19, f20⟩ hL hdep K hK
    simp at hdep
    have d6 : L 6 = true := by first | exact hdep | exact hdep.1 | exact hdep.2 | exact hdep.2.1 | exact hdep.2.2 | exact hdep.2.2.1 | exact hdep.2.2.2
    have e6 := (f6 d6); subst e6
    clear hdep
    have c := Kn.c hw (b := w.heap.size) (T := 37) (vs := x.cs s q) (by simp) 1 _ rfl
    have c2 := Kn.c hw (b := w.heap.size) (T := 37) (vs := x.cs s q) (by simp) 2 _ rfl
    have F0 := Lib.hid f0
    have F1 := Lib.hid f1
    have F2 := Lib.hid f2
    have F3 := Lib.hid f3
    have F4 := Lib.hid f4
    have F5 := Lib.hid f5
    have F6 := Lib.hid f6
    have F7 := Lib.hid f7
    have F8 := Lib.hid f8
    have F9 := Lib.hid f9
    have F10 := Lib.hid f10
    have F11 := Lib.hid f11
    have F12 := Lib.hid f12
    have F13 := Lib.hid f13
    have F14 := Lib.hid f14
    have F15 := Lib.hid f15
    have F16 := Lib.hid f16
    have F17 := Lib.hid f17
    have F18 := Lib.hid f18
    have F19 := Lib.hid f19
    have F20 := Lib.hid f20
    have HW := Lib.hid hw
    clear hw f0 f1 f2 f3 f4 f5 f6 f7 f8 f9 f10 f11 f12 f13 f14 f15 f16 f17 f18 f19 f20
    go_simp
    refine hK.out _ _ ?_
    exact ⟨_, _, _, _, _, _, _, _, _, _, _, _, _, _, _, _, _, _, _, _, _, rfl, HW.out, fun hk => (F0.out ((upd_ne (by decide)).symm.trans hk)), fun hk => (F1.out ((upd_ne (by decide)).symm.trans hk)), fun hk => (F2.out ((upd_ne (by decide)).symm.trans hk)), fun hk => (F3.out ((upd_ne (by decide)).symm.trans hk)), fun hk => (F4.out ((upd_ne (by decide)).symm.trans hk)), fun hk => (F5.out ((upd_ne (by decide)).symm.trans hk)), fun _ => rfl, fun _ => rfl, fun hk => (F8.out ((upd_ne (by decide)).symm.trans hk)), fun hk => (F9.out ((upd_ne (by decide)).symm.trans hk)), fun hk => (F10.out ((upd_ne (by decide)).symm.trans hk)), fun hk => (F11.out ((upd_ne (by decide)).symm.trans hk)), fun hk => (F12.out ((upd_ne (by decide)).symm.trans hk)), fun hk => (F13.out ((upd_ne (by decide)).symm.trans hk)), fun hk => (F14.out ((upd_ne (by decide)).symm.trans hk)), fun hk => (F15.out ((upd_ne (by decide)).symm.trans hk)), fun hk => (F16.out ((upd_ne (by decide)).symm.trans hk)), fun hk => (F17.out ((upd_ne (by decide)).symm.trans hk)), fun hk => (F18.out ((upd_ne (by decide)).symm.trans hk)), fun hk => (F19.out ((upd_ne (by decide)).symm.trans hk)), fun hk => (F20.out ((upd_ne (by decide)).symm.trans hk))⟩
  · rintro L A X ⟨v3, v6, v7, v8, v9, v10, v11, v12, v13, v14, v15, v16, v17, v18, v19, v20, v21, v22, v23, v24, v25, rfl, hw, f0, f1, f2, f3, f4, f5, f6, f7, f8, f9, f10, f11, f12, f13, f14, f15, f16, f17, f18, f19, f20⟩ hL hdep K hK
    simp at hdep
    have d7 : L 7 = true := by first | exact hdep | exact hdep.1 | exact hdep.2 | exact hdep.2.1 | exact hdep.2.2 | exact hdep.2.2.1 | exact hdep.2.2.2
    have e7 := (f7 d7); subst e7
    clear hdep
    have F0 := Lib.hid f0
    have F1 := Lib.hid f1
    have F2 := Lib.hid f2
    have F3 := Lib.hid f3
    have F4 := Lib.hid f4
    have F5 := Lib.hid f5
    have F6 := Lib.hid f6
    have F7 := Lib.hid f7
    have F8 := Lib.hid f8
    have F9 := Lib.hid f9
    have F10 := Lib.hid f10
    have F11 := Lib.hid f11
    have F12 := Lib.hid f12
    have F13 := Lib.hid f13
    have F14 := Lib.hid f14
    have F15 := Lib.hid f15
    have F16 := Lib.hid f16
    have F17 := Lib.hid f17
    have F18 := Lib.hid f18
    have F19 := Lib.hid f19
    have F20 := Lib.hid f20
    have HW := Lib.hid hw
    clear hw f0 f1 f2 f3 f4 f5 f6 f7 f8 f9 f10 f11 f12 f13 f14 f15 f16 f17 f18 f19 f20
    go_simp
    refine (G1.out _).mono ?_
    rintro e y ⟨rfl, hb⟩
    go_simp
    refine hK.out _ _ ?_
    exact ⟨_, _, _, _, _, _, _, _, _, _, _, _, _, _, _, _, _, _, _, _, _, rfl, Kn.stay HW.out hb, fun hk => (let ⟨b, e, hB⟩ := (F0.out ((upd_ne (by decide)).symm.trans hk)); ⟨b, e, hB.stay hb⟩), fun hk => (F1.out ((upd_ne (by decide)).symm.trans hk)), fun hk => (F2.out ((upd_ne (by decide)).symm.trans hk)), fun hk => (let ⟨b, e, hB⟩ := (F3.out ((upd_ne (by decide)).symm.trans hk)); ⟨b, e, hB.stay hb⟩), fun hk => (F4.out ((upd_ne (by decide)).symm.trans hk)), fun hk => (F5.out ((upd_ne (by decide)).symm.trans hk)), fun hk => (F6.out ((upd_ne (by decide)).symm.trans hk)), fun _ => rfl, fun _ => rfl, fun hk => (F9.out ((upd_ne (by decide)).symm.trans hk)), fun hk => (F10.out ((upd_ne (by decide)).symm.trans hk)), fun hk => (F11.out ((upd_ne (by decide)).symm.trans hk)), fun hk => (F12.out ((upd_ne (by decide)).symm.trans hk)), fun hk => (F13.out ((upd_ne (by decide)).symm.trans hk)), fun hk => (F14.out ((upd_ne (by decide)).symm.trans hk)), fun hk => (F15.out ((upd_ne (by decide)).symm.trans hk)), fun hk => (F16.out ((upd_ne (by decide)).symm.trans hk)), fun hk => (F17.out ((upd_ne (by decide)).symm.trans hk)), fun hk => (F18.out ((upd_ne (by decide)).symm.trans hk)), fun hk => (F19.out ((upd_ne (by decide)).symm.trans hk)), fun hk => (F20.out ((upd_ne (by decide)).symm.trans hk))⟩
  · rintro L A X ⟨v3, v6, v7, v8, v9, v10, v11, v12, v13, v14, v15, v16, v17, v18, v19, v20, v21, v22, v23, v24, v25, rfl, hw, f0, f1, f2, f3, f4, f5, f6, f7, f8, f9, f10, f11, f12, f13, f14, f15, f16, f17, f18, f19, f20⟩ hL hdep K hK
    simp at hdep
    have d5 : L 5 = true := by first | exact hdep | exact hdep.1 | exact hdep.2 | exact hdep.2.1 | exact hdep.2.2 | exact hdep.2.2.1 | exact hdep.2.2.2
    have d8 : L 8 = true := by first | exact hdep | exact hdep.1 | exact hdep.2 | exact hdep.2.1 | exact hdep.2.2 | exact hdep.2.2.1 | exact hdep.2.2.2
    have e5 := (f5 d5); subst e5
    have e8 := (f8 d8); subst e8
    clear hdep
    have F0 := Lib.hid f0
    have F1 := Lib.hid f1
    have F2 := Lib.hid f2
    have F3 := Lib.hid f3
    have F4 := Lib.hid f4
    have F5 := Lib.hid f5
    have F6 := Lib.hid f6
    have F7 := Lib.hid f7
    have F8 := Lib.hid f8
    have F9 := Lib.hid f9
    have F10 := Lib.hid f10
    have F11 := Lib.hid f11
    have F12 := Lib.hid f12
    have F13 := Lib.hid f13
    have F14 := Lib.hid f14
    have F15 := Lib.hid f15
    have F16 := Lib.hid f16
    have F17 := Lib.hid f17
    have F18 := Lib.hid f18
    have F19 := Lib.hid f19
    have F20 := Lib.hid f20
    have HW := Lib.hid hw
    clear hw f0 f1 f2 f3 f4 f5 f6 f7 f8 f9 f10 f11 f12 f13 f14 f15 f16 f17 f18 f19 f20
    go_simp
    refine hK.out _ _ ?_
    exact ⟨_, _, _, _, _, _, _, _, _, _, _, _, _, _, _, _, _, _, _, _, _, rfl, HW.out, fun hk => (F0.out ((upd_ne (by decide)).symm.trans hk)), fun hk => (F1.out ((upd_ne (by decide)).symm.trans hk)), fun hk => (F2.out ((upd_ne (by decide)).symm.trans hk)), fun hk => (F3.out ((upd_ne (by decide)).symm.trans hk)), fun hk => (F4.out ((upd_ne (by decide)).symm.trans hk)), fun _ => rfl, fun hk => (F6.out ((upd_ne (by decide)).symm.trans hk)), fun hk => (F7.out ((upd_ne (by decide)).symm.trans hk)), fun _ => rfl, fun _ => rfl, fun hk => (F10.out ((upd_ne (by decide)).symm.trans hk)), fun hk => (F11.out ((upd_ne (by decide)).symm.trans hk)), fun hk => (F12.out ((upd_ne (by decide)).symm.trans hk)), fun hk => (F13.out ((upd_ne (by decide)).symm.trans hk)), fun hk => (F14.out ((upd_ne (by decide)).symm.trans hk)), fun hk => (F15.out ((upd_ne (by decide)).symm.trans hk)), fun hk => (F16.out ((upd_ne (by decide)).symm.trans hk)), fun hk => (F17.out ((upd_ne (by decide)).symm.trans hk)), fun hk => (F18.out ((upd_ne (by decide)).symm.trans hk)), fun hk => (F19.out ((upd_ne (by decide)).symm.trans hk)), fun hk => (F20.out ((upd_ne (by decide)).symm.trans hk))⟩
  · rintro L A X ⟨v3, v6, v7, v8, v9, v10, v11, v12, v13, v14, v15, v16, v17, v18, v19, v20, v21, v22, v23, v24, v25, rfl, hw, f0, f1, f2, f3, f4, f5, f6, f7, f8, f9, f10, f11, f12, f13, f14, f15, f16, f17, f18, f19, f20⟩ hL hdep K hK
    simp at hdep
    have d9 : L 9 = true := by first | exact hdep | exact hdep.1 | exact hdep.2 | exact hdep.2.1 | exact hdep.2.2 | exact hdep.2.2.1 | exact hdep.2.2.2
    have e9 := (f9 d9); subst e9
    clear hdep
    have F0 := Lib.hid f0
    have F1 := Lib.hid f1
    have F2 := Lib.hid f2
    have F3 := Lib.hid f3
    have F4 := Lib.hid f4
    have F5 := Lib.hid f5
    have F6 := Lib.hid f6
    have F7 := Lib.hid f7
    have F8 := Lib.hid f8
    have F9 := Lib.hid f9
    have F10 := Lib.hid f10
    have F11 := Lib.hid f11
    have F12 := Lib.hid f12
    have F13 := Lib.hid f13
    have F14 := Lib.hid f14
    have F15 := Lib.hid f15
    have F16 := Lib.hid f16
    have F17 := Lib.hid f17
    have F18 := Lib.hid f18
    have F19 := Lib.hid f19
    have F20 := Lib.hid f20
    have HW := Lib.hid hw
    clear hw f0 f1 f2 f3 f4 f5 f6 f7 f8 f9 f10 f11 f12 f13 f14 f15 f16 f17 f18 f19 f20
    go_simp
    refine hK.out _ _ ?_
    exact ⟨_, _, _, _, _, _, _, _, _, _, _, _, _, _, _, _, _, _, _, _, _, rfl, HW.out, fun hk => (F0.out ((upd_ne (by decide)).symm.trans hk)), fun hk => (F1.out ((upd_ne (by decide)).symm.trans hk)), fun hk => (F2.out ((upd_ne (by decide)).symm.trans hk)), fun hk => (F3.out ((upd_ne (by decide)).symm.trans hk)), fun hk => (F4.out ((upd_ne (by decide)).symm.trans hk)), fun hk => (F5.out ((upd_ne (by decide)).symm.trans hk)), fun hk => (F6.out ((upd_ne (by decide)).symm.trans hk)), fun hk => (F7.out ((upd_ne (by decide)).symm.trans hk)), fun hk => (F8.out ((upd_ne (by decide)).symm.trans hk)), fun _ => rfl, fun _ => rfl, fun hk => (F11.out ((upd_ne (by decide)).symm.trans hk)), fun hk => (F12.out ((upd_ne (by decide)).symm.trans hk)), fun hk => (F13.out ((upd_ne (by decide)).symm.trans hk)), fun hk => (F14.out ((upd_ne (by decide)).symm.trans hk)), fun hk => (F15.out ((upd_ne (by decide)).symm.trans hk)), fun hk => (F16.out ((upd_ne (by decide)).symm.trans hk)), fun hk => (F17.out ((upd_ne (by decide)).symm.trans hk)), fun hk => (F18.out ((upd_ne (by decide)).symm.trans hk)), fun hk => (F19.out ((upd_ne (by decide)).symm.trans hk)), fun hk => (F20.out ((upd_ne (by decide)).symm.trans hk))⟩
  · rintro L A X ⟨v3, v6, v7, v8, v9, v10, v11, v12, v13, v14, v15, v16, v17, v18, v19, v20, v21, v22, v23, v24, v25, rfl, hw, f0, f1, f2, f3, f4, f5, f6, f7, f8, f9, f10, f11, f12, f13, f14, f15, f16, f17, f18, f19, f20⟩ hL hdep K hK
    clear hdep
    have F0 := Lib.hid f0
    have F1 := Lib.hid f1
    have F2 := Lib.hid f2
    have F3 := Lib.hid f3
    have F4 := Lib.hid f4
    have F5 := Lib.hid f5
    have F6 := Lib.hid f6
    have F7 := Lib.hid f7
    have F8 := Lib.hid f8
    have F9 := Lib.hid f9
    have F10 := Lib.hid f10
    have F11 := Lib.hid f11
    have F12 := Lib.hid f12
    have F13 := Lib.hid f13
    have F14 := Lib.hid f14
    have F15 := Lib.hid f15
    have F16 := Lib.hid f16
    have F17 := Lib.hid f17
    have F18 := Lib.hid f18
    have F19 := Lib.hid f19
    have F20 := Lib.hid f20
    have HW := Lib.hid hw
    clear hw f0 f1 f2 f3 f4 f5 f6 f7 f8 f9 f10 f11 f12 f13 f14 f15 f16 f17 f18 f19 f20
    go_simp
    refine hK.out _ _ ?_
    exact ⟨_, _, _, _, _, _, _, _, _, _, _, _, _, _, _, _, _, _, _, _, _, rfl, HW.out, fun hk => (F0.out ((upd_ne (by decide)).symm.trans hk)), fun hk => (F1.out ((upd_ne (by decide)).symm.trans hk)), fun hk => (F2.out ((upd_ne (by decide)).symm.trans hk)), fun hk => (F3.out ((upd_ne (by decide)).symm.trans hk)), fun hk => (F4.out ((upd_ne (by decide)).symm.trans hk)), fun hk => (F5.out ((upd_ne (by decide)).symm.trans hk)), fun hk => (F6.out ((upd_ne (by decide)).symm.trans hk)), fun hk => (F7.out ((upd_ne (by decide)).symm.trans hk)), fun hk => (F8.out ((upd_ne (by decide)).symm.trans hk)), fun hk => (F9.out ((upd_ne (by decide)).symm.trans hk)), fun hk => (F10.out ((upd_ne (by decide)).symm.trans hk)), fun _ => rfl, fun hk => (F12.out ((upd_ne (by decide)).symm.trans hk)), fun hk => (F13.out ((upd_ne (by decide)).symm.trans hk)), fun hk => (F14.out ((upd_ne (by decide)).symm.trans hk)), fun hk => (F15.out ((upd_ne (by decide)).symm.trans hk)), fun hk => (F16.out ((upd_ne (by decide)).symm.trans hk)), fun hk => (F17.out ((upd_ne (by decide)).symm.trans hk)), fun hk => (F18.out ((upd_ne (by decide)).symm.trans hk)), fun hk => (F19.out ((upd_ne (by decide)).symm.trans hk)), fun hk => (F20.out ((upd_ne (by decide)).symm.trans hk))⟩
  · rintro L A X ⟨v3, v6, v7, v8, v9, v10, v11, v12, v13, v14, v15, v16, v17, v18, v19, v20, v21, v22, v23, v24, v25, rfl, hw, f0, f1, f2, f3, f4, f5, f6, f7, f8, f9, f10, f11, f12, f13, f14, f15, f16, f17, f18, f19, f20⟩ hL hdep K hK
    simp at hdep
    have d11 : L 11 = true := by first | exact hdep | exact hdep.1 | exact hdep.2 | exact hdep.2.1 | exact hdep.2.2 | exact hdep.2.2.1 | exact hdep.2.2.2
    have e11 := (f11 d11); subst e11
    clear hdep
    have c := Kn.c hw (b := w.heap.size) (T := 37) (vs := x.cs s q) (by simp) 3 _ rfl
    have F0 := Lib.hid f0
    have F1 := Lib.hid f1
    have F2 := Lib.hid f2
    have F3 := Lib.hid f3
    have F4 := Lib.hid f4
    have F5 := Lib.hid f5
    have F6 := Lib.hid f6
    have F7 := Lib.hid f7
    have F8 := Lib.hid f8
    have F9 := Lib.hid f9
    have F10 := Lib.hid f10
    have F11 := Lib.hid f11
    have F12 := Lib.hid f12
    have F13 := Lib.hid f13
    have F14 := Lib.hid f14
    have F15 := Lib.hid f15
    have F16 := Lib.hid f16
    have F17 := Lib.hid f17
    have F18 := Lib.hid f18
    have F19 := Lib.hid f19
    have F20 := Lib.hid f20
    have HW := Lib.hid hw
    clear hw f0 f1 f2 f3 f4 f5 f6 f7 f8 f9 f10 f11 f12 f13 f14 f15 f16 f17 f18 f19 f20
    go_simp
    refine hK.out _ _ ?_
    exact ⟨_, _, _, _, _, _, _, _, _, _, _, _, _, _, _, _, _, _, _, _, _, rfl, HW.out, fun hk => (F0.out ((upd_ne (by decide)).symm.trans hk)), fun hk => (F1.out ((upd_ne (by decide)).symm.trans hk)), fun hk => (F2.out ((upd_ne (by decide)).symm.trans hk)), fun hk => (F3.out ((upd_ne (by decide)).symm.trans hk)), fun hk => (F4.out ((upd_ne (by decide)).symm.trans hk)), fun hk => (F5.out ((upd_ne (by decide)).symm.trans hk)), fun hk => (F6.out ((upd_ne (by decide)).symm.trans hk)), fun hk => (F7.out ((upd_ne (by decide)).symm.trans hk)), fun hk => (F8.out ((upd_ne (by decide)).symm.trans hk)), fun hk => (F9.out ((upd_ne (by decide)).symm.trans hk)), fun hk => (F10.out ((upd_ne (by decide)).symm.trans hk)), fun _ => rfl, fun _ => rfl, fun hk => (F13.out ((upd_ne (by decide)).symm.trans hk)), fun hk => (F14.out ((upd_ne (by decide)).symm.trans hk)), fun hk => (F15.out ((upd_ne (by decide)).symm.trans hk)), fun hk => (F16.out ((upd_ne (by decide)).symm.trans hk)), fun hk => (F17.out ((upd_ne (by decide)).symm.trans hk)), fun hk => (F18.out ((upd_ne (by decide)).symm.trans hk)), fun hk => (F19.out ((upd_ne (by decide)).symm.trans hk)), fun hk => (F20.out ((upd_ne (by decide)).symm.trans hk))⟩
  · rintro L A X ⟨v3, v6, v7, v8, v9, v10, v11, v12, v13, v14, v15, v16, v17, v18, v19, v20, v21, v22, v23, v24, v25, rfl, hw, f0, f1, f2, f3, f4, f5, f6, f7, f8, f9, f10, f11, f12, f13, f14, f15, f16, f17, f18, f19, f20⟩ hL hdep K hK
    simp at hdep
    have d12 : L 12 = true := by first | exact hdep | exact hdep.1 | exact hdep.2 | exact hdep.2.1 | exact hdep.2.2 | exact hdep.2.2.1 | exact hdep.2.2.2
    have e12 := (f12 d12); subst e12
    clear hdep
    have F0 := Lib.hid f0
    have F1 := Lib.hid f1
    have F2 := Lib.hid f2
    have F3 := Lib.hid f3
    have F4 := Lib.hid f4
    have F5 := Lib.hid f5
    have F6 := Lib.hid f6
    have F7 := Lib.hid f7
    have F8 := Lib.hid f8
    have F9 := Lib.hid f9
    have F10 := Lib.hid f10
    have F11 := Lib.hid f11
    have F12 := Lib.hid f12
    have F13 := Lib.hid f13
    have F14 := Lib.hid f14
    have F15 := Lib.hid f15
    have F16 := Lib.hid f16
    have F17 := Lib.hid f17
    have F18 := Lib.hid f18
    have F19 := Lib.hid f19
    have F20 := Lib.hid f20
    have HW := Lib.hid hw
    clear hw f0 f1 f2 f3 f4 f5 f6 f7 f8 f9 f10 f11 f12 f13 f14 f15 f16 f17 f18 f19 f20
    go_simp
    refine (G2.out _).mono ?_
    rintro e y ⟨rfl, hb⟩
    go_simp
    refine hK.out _ _ ?_
    exact ⟨_, _, _, _, _, _, _, _, _, _, _, _, _, _, _, _, _, _, _, _, _, rfl, Kn.stay HW.out hb, fun hk => (let ⟨b, e, hB⟩ := (F0.out ((upd_ne (by decide)).symm.trans hk)); ⟨b, e, hB.stay hb⟩), fun hk => (F1.out ((upd_ne (by decide)).symm.trans hk)), fun hk => (F2.out ((upd_ne (by decide)).symm.trans hk)), fun hk => (let ⟨b, e, hB⟩ := (F3.out ((upd_ne (by decide)).symm.trans hk)); ⟨b, e, hB.stay hb⟩), fun hk => (F4.out ((upd_ne (by decide)).symm.trans hk)), fun hk => (F5.out ((upd_ne (by decide)).symm.trans hk)), fun hk => (F6.out ((upd_ne (by decide)).symm.trans hk)), fun hk => (F7.out ((upd_ne (by decide)).symm.trans hk)), fun hk => (F8.out ((upd_ne (by decide)).symm.trans hk)), fun hk => (F9.out ((upd_ne (by decide)).symm.trans hk)), fun hk => (F10.out ((upd_ne (by decide)).symm.trans hk)), fun hk => (F11.out ((upd_ne (by decide)).symm.trans hk)), fun _ => rfl, fun _ => rfl, fun hk => (F14.out ((upd_ne (by decide)).symm.trans hk)), fun hk => (F15.out ((upd_ne (by decide)).symm.trans hk)), fun hk => (F16.out ((upd_ne (by decide)).symm.trans hk)), fun hk => (F17.out ((upd_ne (by decide)).symm.trans hk)), fun hk => (F18.out ((upd_ne (by decide)).symm.trans hk)), fun hk => (F19.out ((upd_ne (by decide)).symm.trans hk)), fun hk => (F20.out ((upd_ne (by decide)).symm.trans hk))⟩
  · rintro L A X ⟨v3, v6, v7, v8, v9, v10, v11, v12, v13, v14, v15, v16, v17, v18, v19, v20, v21, v22, v23, v24, v25, rfl, hw, f0, f1, f2, f3, f4, f5, f6, f7, f8, f9, f10, f11, f12, f13, f14, f15, f16, f17, f18, f19, f20⟩ hL hdep K hK
    simp at hdep
    have d10 : L 10 = true := by first | exact hdep | exact hdep.1 | exact hdep.2 | exact hdep.2.1 | exact hdep.2.2 | exact hdep.2.2.1 | exact hdep.2.2.2
    have d13 : L 13 = true := by first | exact hdep | exact hdep.1 | exact hdep.2 | exact hdep.2.1 | exact hdep.2.2 | exact hdep.2.2.1 | exact hdep.2.2.2
    have e10 := (f10 d10); subst e10
    have e13 := (f13 d13); subst e13
    clear hdep
    have F0 := Lib.hid f0
    have F1 := Lib.hid f1
    have F2 := Lib.hid f2
    have F3 := Lib.hid f3
    have F4 := Lib.hid f4
    have F5 := Lib.hid f5
    have F6 := Lib.hid f6
    have F7 := Lib.hid f7
    have F8 := Lib.hid f8
    have F9 := Lib.hid f9
    have F10 := Lib.hid f10
    have F11 := Lib.hid f11
    have F12 := Lib.hid f12
    have F13 := Lib.hid f13
    have F14 := Lib.hid f14
    have F15 := Lib.hid f15
    have F16 := Lib.hid f16
    have F17 := Lib.hid f17
    have F18 := Lib.hid f18
    have F19 := Lib.hid f19
    have F20 := Lib.hid f20
    have HW := Lib.hid hw
    clear hw f0 f1 f2 f3 f4 f5 f6 f7 f8 f9 f10 f11 f12 f13 f14 f15 f16 f17 f18 f19 f20
    go_simp
    refine hK.out _ _ ?_
    exact ⟨_, _, _, _, _, _, _, _, _, _, _, _, _, _, _, _, _, _, _, _, _, rfl, HW.out, fun hk => (F0.out ((upd_ne (by decide)).symm.trans hk)), fun hk => (F1.out ((upd_ne (by decide)).symm.trans hk)), fun hk => (F2.out ((upd_ne (by decide)).symm.trans hk)), fun hk => (F3.out ((upd_ne (by decide)).symm.trans hk)), fun hk => (F4.out ((upd_ne (by decide)).symm.trans hk)), fun hk => (F5.out ((upd_ne (by decide)).symm.trans hk)), fun hk => (F6.out ((upd_ne (by decide)).symm.trans hk)), fun hk => (F7.out ((upd_ne (by decide)).symm.trans hk)), fun hk => (F8.out ((upd_ne (by decide)).symm.trans hk)), fun hk => (F9.out ((upd_ne (by decide)).symm.trans hk)), fun _ => rfl, fun hk => (F11.out ((upd_ne (by decide)).symm.trans hk)), fun hk => (F12.out ((upd_ne (by decide)).symm.trans hk)), fun _ => rfl, fun _ => rfl, fun hk => (F15.out ((upd_ne (by decide)).symm.trans hk)), fun hk => (F16.out ((upd_ne (by decide)).symm.trans hk)), fun hk => (F17.out ((upd_ne (by decide)).symm.trans hk)), fun hk => (F18.out ((upd_ne (by decide)).symm.trans hk)), fun hk => (F19.out ((upd_ne (by decide)).symm.trans hk)), fun hk => (F20.out ((upd_ne (by decide)).symm.trans hk))⟩
  · rintro L A X ⟨v3, v6, v7, v8, v9, v10, v11, v12, v13, v14, v15, v16, v17, v18, v19, v20, v21, v22, v23, v24, v25, rfl, hw, f0, f1, f2, f3, f4, f5, f6, f7, f8, f9, f10, f11, f12, f13, f14, f15, f16, f17, f18, f19, f20⟩ hL hdep K hK
    simp at hdep
    have d14 : L 14 = true := by first | exact hdep | exact hdep.1 | exact hdep.2 | exact hdep.2.1 | exact hdep.2.2 | exact hdep.2.2.1 | exact hdep.2.2.2
    have e14 := (f14 d14); subst e14
    clear hdep
    have F0 := Lib.hid f0
    have F1 := Lib.hid f1
    have F2 := Lib.hid f2
    have F3 := Lib.hid f3
    have F4 := Lib.hid f4
    have F5 := Lib.hid f5
    have F6 := Lib.hid f6
    have F7 := Lib.hid f7
    have F8 := Lib.hid f8
    have F9 := Lib.hid f9
    have F10 := Lib.hid f10
    have F11 := Lib.hid f11
    have F12 := Lib.hid f12
    have F13 := Lib.hid f13
    have F14 := Lib.hid f14
    have F15 := Lib.hid f15
    have F16 := Lib.hid f16
    have F17 := Lib.hid f17
    have F18 := Lib.hid f18
    have F19 := Lib.hid f19
    have F20 := Lib.hid f20
    have HW := Lib.hid hw
    clear hw f0 f1 f2 f3 f4 f5 f6 f7 f8 f9 f10 f11 f12 f13 f14 f15 f16 f17 f18 f19 f20
    go_simp
    refine hK.out _ _ ?_
    exact ⟨_, _, _, _, _, _, _, _, _, _, _, _, _, _, _, _, _, _, _, _, _, rfl, HW.out, fun hk => (F0.out ((upd_ne (by decide)).symm.trans hk)), fun hk => (F1.out ((upd_ne (by decide)).symm.trans hk)), fun hk => (F2.out ((upd_ne (by decide)).symm.trans hk)), fun hk => (F3.out ((upd_ne (by decide)).symm.trans hk)), fun hk => (F4.out ((upd_ne (by decide)).symm.trans hk)), fun hk => (F5.out ((upd_ne (by decide)).symm.trans hk)), fun hk => (F6.out ((upd_ne (by decide)).symm.trans hk)), fun hk => (F7.out ((upd_ne (by decide)).symm.trans hk)), fun hk => (F8.out ((upd_ne (by decide)).symm.trans hk)), fun hk => (F9.out ((upd_ne (by decide)).symm.trans hk)), fun hk => (F10.out ((upd_ne (by decide)).symm.trans hk)), fun hk => (F11.out ((upd_ne (by decide)).symm.trans hk)), fun hk => (F12.out ((upd_ne (by decide)).symm.trans hk)), fun hk => (F13.out ((upd_ne (by decide)).symm.trans hk)), fun _ => rfl, fun _ => rfl, fun hk => (F16.out ((upd_ne (by decide)).symm.trans hk)), fun hk => (F17.out ((upd_ne (by decide)).symm.trans hk)), fun hk => (F18.out ((upd_ne (by decide)).symm.trans hk)), fun hk => (F19.out ((upd_ne (by decide)).symm.trans hk)), fun hk => (F20.out ((upd_ne (by decide)).symm.trans hk))⟩
  · rintro L A X ⟨v3, v6, v7, v8, v9, v10, v11, v12, v13, v14, v15, v16, v17, v18, v19, v20, v21, v22, v23, v24, v25, rfl, hw, f0, f1, f2, f3, f4, f5, f6, f7, f8, f9, f10, f11, f12, f13, f14, f15, f16, f17, f18, f19, f20⟩ hL hdep K hK
    clear hdep
    have F0 := Lib.hid f0
    have F1 := Lib.hid f1
    have F2 := Lib.hid f2
    have F3 := Lib.hid f3
    have F4 := Lib.hid f4
    have F5 := Lib.hid f5
    have F6 := Lib.hid f6
    have F7 := Lib.hid f7
    have F8 := Lib.hid f8
    have F9 := Lib.hid f9
    have F10 := Lib.hid f10
    have F11 := Lib.hid f11
    have F12 := Lib.hid f12
    have F13 := Lib.hid f13
    have F14 := Lib.hid f14
    have F15 := Lib.hid f15
    have F16 := Lib.hid f16
    have F17 := Lib.hid f17
    have F18 := Lib.hid f18
    have F19 := Lib.hid f19
    have F20 := Lib.hid f20
    have HW := Lib.hid hw
    clear hw f0 f1 f2 f3 f4 f5 f6 f7 f8 f9 f10 f11 f12 f13 f14 f15 f16 f17 f18 f19 f20
    go_simp
    refine hK.out _ _ ?_
    exact ⟨_, _, _, _, _, _, _, _, _, _, _, _, _, _, _, _, _, _, _, _, _, rfl, HW.out, fun hk => (F0.out ((upd_ne (by decide)).symm.trans hk)), fun hk => (F1.out ((upd_ne (by decide)).symm.trans hk)), fun hk => (F2.out ((upd_ne (by decide)).symm.trans hk)), fun hk => (F3.out ((upd_ne (by decide)).symm.trans hk)), fun hk => (F4.out ((upd_ne (by decide)).symm.trans hk)), fun hk => (F5.out ((upd_ne (by decide)).symm.trans hk)), fun hk => (F6.out ((upd_ne (by decide)).symm.trans hk)), fun hk => (F7.out ((upd_ne (by decide)).symm.trans hk)), fun hk => (F8.out ((upd_ne (by decide)).symm.trans hk)), fun hk => (F9.out ((upd_ne (by decide)).symm.trans hk)), fun hk => (F10.out ((upd_ne (by decide)).symm.trans hk)), fun hk => (F11.out ((upd_ne (by decide)).symm.trans hk)), fun hk => (F12.out ((upd_ne (by decide)).symm.trans hk)), fun hk => (F13.out ((upd_ne (by decide)).symm.trans hk)), fun hk => (F14.out ((upd_ne (by decide)).symm.trans hk)), fun hk => (F15.out ((upd_ne (by decide)).symm.trans hk)), fun _ => rfl, fun hk => (F17.out ((upd_ne (by decide)).symm.trans hk)), fun hk => (F18.out ((upd_ne (by decide)).symm.trans hk)), fun hk => (F19.out ((upd_ne (by decide)).symm.trans hk)), fun hk => (F20.out ((upd_ne (by decide)).symm.trans hk))⟩
  · rintro L A X ⟨v3, v6, v7, v8, v9, v10, v11, v12, v13, v14, v15, v16, v17, v18, v19, v20, v21, v22, v23, v24, v25, rfl, hw, f0, f1, f2, f3, f4, f5, f6, f7, f8, f9, f10, f11, f12, f13, f14, f15, f16, f17, f18, f19, f20⟩ hL hdep K hK
    simp at hdep
    have d16 : L 16 = true := by first | exact hdep | exact hdep.1 | exact hdep.2 | exact hdep.2.1 | exact hdep.2.2 | exact hdep.2.2.1 | exact hdep.2.2.2
    have e16 := (f16 d16); subst e16
    clear hdep
    have c := Kn.c hw (b := w.heap.size) (T := 37) (vs := x.cs s q) (by simp) 4 _ rfl
    have F0 := Lib.hid f0
    have F1 := Lib.hid f1
    have F2 := Lib.hid f2
    have F3 := Lib.hid f3
    have F4 := Lib.hid f4
    have F5 := Lib.hid f5
    have F6 := Lib.hid f6
    have F7 := Lib.hid f7
    have F8 := Lib.hid f8
    have F9 := Lib.hid f9
    have F10 := Lib.hid f10
    have F11 := Lib.hid f11
    have F12 := Lib.hid f12
    have F13 := Lib.hid f13
    have F14 := Lib.hid f14
    have F15 := Lib.hid f15
    have F16 := Lib.hid f16
    have F17 := Lib.hid f17
    have F18 := Lib.hid f18
    have F19 := Lib.hid f19
    have F20 := Lib.hid f20
    have HW := Lib.hid hw
    clear hw f0 f1 f2 f3 f4 f5 f6 f7 f8 f9 f10 f11 f12 f13 f14 f15 f16 f17 f18 f19 f20
    go_simp
    refine hK.out _ _ ?_
    exact ⟨_, _, _, _, _, _, _, _, _, _, _, _, _, _, _, _, _, _, _, _, _, rfl, HW.out, fun hk => (F0.out ((upd_ne (by decide)).symm.trans hk)), fun hk => (F1.out ((upd_ne (by decide)).symm.trans hk)), fun hk => (F2.out ((upd_ne (by decide)).symm.trans hk)), fun hk => (F3.out ((upd_ne (by decide)).symm.trans hk)), fun hk => (F4.out ((upd_ne (by decide)).symm.trans hk)), fun hk => (F5.out ((upd_ne (by decide)).symm.trans hk)), fun hk => (F6.out ((upd_ne (by decide)).symm.trans hk)), fun hk => (F7.out ((upd_ne (by decide)).symm.trans hk)), fun hk => (F8.out ((upd_ne (by decide)).symm.trans hk)), fun hk => (F9.out ((upd_ne (by decide)).symm.trans hk)), fun hk => (F10.out ((upd_ne (by decide)).symm.trans hk)), fun hk => (F11.out ((upd_ne (by decide)).symm.trans hk)), fun hk => (F12.out ((upd_ne (by decide)).symm.trans hk)), fun hk => (F13.out ((upd_ne (by decide)).symm.trans hk)), fun hk => (F14.out ((upd_ne (by decide)).symm.trans hk)), fun hk => (F15.out ((upd_ne (by decide)).symm.trans hk)), fun _ => rfl, fun _ => rfl, fun hk => (F18.out ((upd_ne (by decide)).symm.trans hk)), fun hk => (F19.out ((upd_ne (by decide)).symm.trans hk)), fun hk => (F20.out ((upd_ne (by decide)).symm.trans hk))⟩
  · rintro L A X ⟨v3, v6, v7, v8, v9, v10, v11, v12, v13, v14, v15, v16, v17, v18, v19, v20, v21, v22, v23, v24, v25, rfl, hw, f0, f1, f2, f3, f4, f5, f6, f7, f8, f9, f10, f11, f12, f13, f14, f15, f16, f17, f18, f19, f20⟩ hL hdep K hK
    simp at hdep
    have d17 : L 17 = true := by first | exact hdep | exact hdep.1 | exact hdep.2 | exact hdep.2.1 | exact hdep.2.2 | exact hdep.2.2.1 | exact hdep.2.2.2
    have e17 := (f17 d17); subst e17
    clear hdep
    have F0 := Lib.hid f0
    have F1 := Lib.hid f1
    have F2 := Lib.hid f2
    have F3 := Lib.hid f3
    have F4 := Lib.hid f4
    have F5 := Lib.hid f5
    have F6 := Lib.hid f6
    have F7 := Lib.hid f7
    have F8 := Lib.hid f8
    have F9 := Lib.hid f9
    have F10 := Lib.hid f10
    have F11 := Lib.hid f11
    have F12 := Lib.hid f12
    have F13 := Lib.hid f13
    have F14 := Lib.hid f14
    have F15 := Lib.hid f15
    have F16 := Lib.hid f16
    have F17 := Lib.hid f17
    have F18 := Lib.hid f18
    have F19 := Lib.hid f19
    have F20 := Lib.hid f20
    have HW := Lib.hid hw
    clear hw f0 f1 f2 f3 f4 f5 f6 f7 f8 f9 f10 f11 f12 f13 f14 f15 f16 f17 f18 f19 f20
    go_simp
    refine (G3.out _).mono ?_
    rintro e y ⟨rfl, hb⟩
    go_simp
    refine hK.out _ _ ?_
    exact ⟨_, _, _, _, _, _, _, _, _, _, _, _, _, _, _, _, _, _, _, _, _, rfl, Kn.stay HW.out hb, fun hk => (let ⟨b, e, hB⟩ := (F0.out ((upd_ne (by decide)).symm.trans hk)); ⟨b, e, hB.stay hb⟩), fun hk => (F1.out ((upd_ne (by decide)).symm.trans hk)), fun hk => (F2.out ((upd_ne (by decide)).symm.trans hk)), fun hk => (let ⟨b, e, hB⟩ := (F3.out ((upd_ne (by decide)).symm.trans hk)); ⟨b, e, hB.stay hb⟩), fun hk => (F4.out ((upd_ne (by decide)).symm.trans hk)), fun hk => (F5.out ((upd_ne (by decide)).symm.trans hk)), fun hk => (F6.out ((upd_ne (by decide)).symm.trans hk)), fun hk => (F7.out ((upd_ne (by decide)).symm.trans hk)), fun hk => (F8.out ((upd_ne (by decide)).symm.trans hk)), fun hk => (F9.out ((upd_ne (by decide)).symm.trans hk)), fun hk => (F10.out ((upd_ne (by decide)).symm.trans hk)), fun hk => (F11.out ((upd_ne (by decide)).symm.trans hk)), fun hk => (F12.out ((upd_ne (by decide)).symm.trans hk)), fun hk => (F13.out ((upd_ne (by decide)).symm.trans hk)), fun hk => (F14.out ((upd_ne (by decide)).symm.trans hk)), fun hk => (F15.out ((upd_ne (by decide)).symm.trans hk)), fun hk => (F16.out ((upd_ne (by decide)).symm.trans hk)), fun _ => rfl, fun _ => rfl, fun hk => (F19.out ((upd_ne (by decide)).symm.trans hk)), fun hk => (F20.out ((upd_ne (by decide)).symm.trans hk))⟩
  · rintro L A X ⟨v3, v6, v7, v8, v9, v10, v11, v12, v13, v14, v15, v16, v17, v18, v19, v20, v21, v22, v23, v24, v25, rfl, hw, f0, f1, f2, f3, f4, f5, f6, f7, f8, f9, f10, f11, f12, f13, f14, f15, f16, f17, f18, f19, f20⟩ hL hdep K hK
    simp at hdep
    have d15 : L 15 = true := by first | exact hdep | exact hdep.1 | exact hdep.2 | exact hdep.2.1 | exact hdep.2.2 | exact hdep.2.2.1 | exact hdep.2.2.2
    have d18 : L 18 = true := by first | exact hdep | exact hdep.1 | exact hdep.2 | exact hdep.2.1 | exact hdep.2.2 | exact hdep.2.2.1 | exact hdep.2.2.2
    have e15 := (f15 d15); subst e15
    have e18 := (f18 d18); subst e18
    clear hdep
    have F0 := Lib.hid f0
    have F1 := Lib.hid f1
    have F2 := Lib.hid f2
    have F3 := Lib.hid f3
    have F4 := Lib.hid f4
    have F5 := Lib.hid f5
    have F6 := Lib.hid f6
    have F7 := Lib.hid f7
    have F8 := Lib.hid f8
    have F9 := Lib.hid f9
    have F10 := Lib.hid f10
    have F11 := Lib.hid f11
    have F12 := Lib.hid f12
    have F13 := Lib.hid f13
    have F14 := Lib.hid f14
    have F15 := Lib.hid f15
    have F16 := Lib.hid f16
    have F17 := Lib.hid f17
    have F18 := Lib.hid f18
    have F19 := Lib.hid f19
    have F20 := Lib.hid f20
    have HW := Lib.hid hw
    clear hw f0 f1 f2 f3 f4 f5 f6 f7 f8 f9 f10 f11 f12 f13 f14 f15 f16 f17 f18 f19 f20
    go_simp
    refine hK.out _ _ ?_
    exact ⟨_, _, _, _, _, _, _, _, _, _, _, _, _, _, _, _, _, _, _, _, _, rfl, HW.out, fun hk => (F0.out ((upd_ne (by decide)).symm.trans hk)), fun hk => (F1.out ((upd_ne (by decide)).symm.trans hk)), fun hk => (F2.out ((upd_ne (by decide)).symm.trans hk)), fun hk => (F3.out ((upd_ne (by decide)).symm.trans hk)), fun hk => (F4.out ((upd_ne (by decide)).symm.trans hk)), fun hk => (F5.out ((upd_ne (by decide)).symm.trans hk)), fun hk => (F6.out ((upd_ne (by decide)).symm.trans hk)), fun hk => (F7.out ((upd_ne (by decide)).symm.trans hk)), fun hk => (F8.out ((upd_ne (by decide)).symm.trans hk)), fun hk => (F9.out ((upd_ne (by decide)).symm.trans hk)), fun hk => (F10.out ((upd_ne (by decide)).symm.trans hk)), fun hk => (F11.out ((upd_ne (by decide)).symm.trans hk)), fun hk => (F12.out ((upd_ne (by decide)).symm.trans hk)), fun hk => (F13.out ((upd_ne (by decide)).symm.trans hk)), fun hk => (F14.out ((upd_ne (by decide)).symm.trans hk)), fun _ => rfl, fun hk => (F16.out ((upd_ne (by decide)).symm.trans hk)), fun hk => (F17.out ((upd_ne (by decide)).symm.trans hk)), fun _ => rfl, fun _ => rfl, fun hk => (F20.out ((upd_ne (by decide)).symm.trans hk))⟩
  · rintro L A X ⟨v3, v6, v7, v8, v9, v10, v11, v12, v13, v14, v15, v16, v17, v18, v19, v20, v21, v22, v23, v24, v25, rfl, hw, f0, f1, f2, f3, f4, f5, f6, f7, f8, f9, f10, f11, f12, f13, f14, f15, f16, f17, f18, f19, f20⟩ hL hdep K hK
    simp at hdep
    have d19 : L 19 = true := by first | exact hdep | exact hdep.1 | exact hdep.2 | exact hdep.2.1 | exact hdep.2.2 | exact hdep.2.2.1 | exact hdep.2.2.2 | exact hdep.2.2.2.1 | exact hdep.2.2.2.2
    have e19 := (f19 d19); subst e19
    clear hdep
    have F0 := Lib.hid f0
    have F1 := Lib.hid f1
    have F2 := Lib.hid f2
    have F3 := Lib.hid f3
    have F4 := Lib.hid f4
    have F5 := Lib.hid f5
    have F6 := Lib.hid f6
    have F7 := Lib.hid f7
    have F8 := Lib.hid f8
    have F9 := Lib.hid f9
    have F10 := Lib.hid f10
    have F11 := Lib.hid f11
    have F12 := Lib.hid f12
    have F13 := Lib.hid f13
    have F14 := Lib.hid f14
    have F15 := Lib.hid f15
    have F16 := Lib.hid f16
    have F17 := Lib.hid f17
    have F18 := Lib.hid f18
    have F19 := Lib.hid f19
    have F20 := Lib.hid f20
    have HW := Lib.hid hw
    clear hw f0 f1 f2 f3 f4 f5 f6 f7 f8 f9 f10 f11 f12 f13 f14 f15 f16 f17 f18 f19 f20
    go_simp
    refine hK.out _ _ ?_
    exact ⟨_, _, _, _, _, _, _, _, _, _, _, _, _, _, _, _, _, _, _, _, _, rfl, HW.out, fun hk => (F0.out ((upd_ne (by decide)).symm.trans hk)), fun hk => (F1.out ((upd_ne (by decide)).symm.trans hk)), fun hk => (F2.out ((upd_ne (by decide)).symm.trans hk)), fun hk => (F3.out ((upd_ne (by decide)).symm.trans hk)), fun hk => (F4.out ((upd_ne (by decide)).symm.trans hk)), fun hk => (F5.out ((upd_ne (by decide)).symm.trans hk)), fun hk => (F6.out ((upd_ne (by decide)).symm.trans hk)), fun hk => (F7.out ((upd_ne (by decide)).symm.trans hk)), fun hk => (F8.out ((upd_ne (by decide)).symm.trans hk)), fun hk => (F9.out ((upd_ne (by decide)).symm.trans hk)), fun hk => (F10.out ((upd_ne (by decide)).symm.trans hk)), fun hk => (F11.out ((upd_ne (by decide)).symm.trans hk)), fun hk => (F12.out ((upd_ne (by decide)).symm.trans hk)), fun hk => (F13.out ((upd_ne (by decide)).symm.trans hk)), fun hk => (F14.out ((upd_ne (by decide)).symm.trans hk)), fun hk => (F15.out ((upd_ne (by decide)).symm.trans hk)), fun hk => (F16.out ((upd_ne (by decide)).symm.trans hk)), fun hk => (F17.out ((upd_ne (by decide)).symm.trans hk)), fun hk => (F18.out ((upd_ne (by decide)).symm.trans hk)), fun _ => rfl, fun _ => rfl⟩
  · rintro L A X ⟨v3, v6, v7, v8, v9, v10, v11, v12, v13, v14, v15, v16, v17, v18, v19, v20, v21, v22, v23, v24, v25, rfl, hw, f0, f1, f2, f3, f4, f5, f6, f7, f8, f9, f10, f11, f12, f13, f14, f15, f16, f17, f18, f19, f20⟩ hall
    have e := f20 (hall 20 (by decide))
    subst e
    rw [HE.out]
    have HX1 := Lib.hid (show Kn w [(w.heap.size, 37, x.cs s q)] X from hw)
    have sn := HR.out.len
    have qn := HQ.out.len
    have hs4 := okT_slots HX.out
    obtain ⟨hq3, hqr⟩ := x_okT_queue HX.out
    have HQB := Lib.hid hqr
    obtain ⟨hl, hhl⟩ : ∃ hl, headL x = hl := ⟨_, rfl⟩
    have hz : hl.length ≤ 16 := hhl ▸ head_len x
    have HHL := Lib.hid hhl
    rw [hhl]
    clear f0 f1 f2 f3 f4 f5 f6 f7 f8 f9 f10 f11 f12 f13 f14 f15 f16 f17 f18 f19 f20 hall hw hkd hkd' wk HKN y1 y2 y3 y4 y5 y6 HE G1 G2 G3 HK0 hqr hhl hY
    go_wp2
    go_loopw [3, 4] (fun v i wr => ∃ k : Nat, k ≤ x.slots.length ∧ i = .int .i64 k ∧ v = .string (B (hl ++ slotsL (x.slots.take k))) ∧ Kn w [(w.heap.size, 37, x.cs s q)] wr) (fun _ i _ => x.slots.length - (intOf i).toNat)
    case atStart => exact ⟨0, by omega, rfl, by simp [slotsL], HX1.out⟩
    case round =>
      clear HX1
      obtain ⟨k, hk, rfl, rfl, K2⟩ := hrel
      have c0 := K2.c (b := w.heap.size) (T := 37) (vs := x.cs s q) (by simp) 0 _ rfl
      have c4 := K2.c (b := w.heap.size) (T := 37) (vs := x.cs s q) (by simp) 5 _ rfl
      have c5 := K2.c (b := w.heap.size) (T := 37) (vs := x.cs s q) (by simp) 6 _ rfl
      have HS2 := Lib.hid (HR.out.stay K2.1)
      have HK2 := Lib.hid K2
      clear K2
      by_cases hlt : k < x.slots.length
      · have hlt' : (k : Int) < (x.slots.length : Int) := by omega
        obtain ⟨b, o, ea, hc⟩ := HS2.out.at hlt
        have d0 : wr.cell? ⟨b, o + k * 5, none⟩ = some (.int .i64 (x.slots[k]).t) := hc 0 _ rfl
        have d1 := hc 1 _ rfl
        have d2 := hc 2 _ rfl
        have d3 := hc 3 _ rfl
        have d4 := hc 4 _ rfl
        have OR := Lib.hid (okT_right HX.out hlt)
        have HTK := Lib.hid (slotsL_more x.slots k hlt)
        obtain ⟨r, hr⟩ : ∃ r, x.slots[k] = r := ⟨_, rfl⟩
        rw [hr] at d0 d1 d2 d3 d4 OR HTK
        have zk := slotsL_len (x.slots.take k)
        have zk2 : (x.slots.take k).length = k := by rw [List.length_take]; omega
        obtain ⟨pre, hpre⟩ : ∃ pre, B (hl ++ slotsL (x.slots.take k)) = pre := ⟨_, rfl⟩
        have zp : pre.size ≤ 50 := by rw [← hpre, B_size]; simp only [List.length_append]; omega
        obtain ⟨tr, htr⟩ : ∃ tr, txtR r.t r.v r.r r.w r.k = tr := ⟨_, rfl⟩
        have zt : tr.size ≤ 6 := by rw [← htr, txtR_B]; exact rgt_len r OR.out
        have y1 : ¬ 9223372036854775807 < pre.size + 1 := by omega
        have y2 : ¬ 9223372036854775807 < pre.size + 1 + tr.size := by omega
        have HF := Lib.hid (show pre ++ ⟨#[32]⟩ ++ tr = B (hl ++ slotsL (x.slots.take (k + 1))) by
          rw [← hpre, ← htr, HTK.out, txtR_B, show (⟨#[32]⟩ : ByteArray) = B [32] from rfl]
          simp only [B_app, List.append_assoc, List.cons_append, List.nil_append])
        have HT := Lib.hid htr
        rw [hpre]
        clear hc zk zk2 hpre zp zt htr hr
        go_wp2_with fail
        refine (specRText_val HT.out _).mono ?_
        rintro e y ⟨rfl, hb⟩
        have HK3 := Lib.hid (HK2.out.stay hb)
        clear hb HK2 d0 d1 d2 d3 d4 c0 c4 c5
        go_wp2
        go_roundw
        case rel => exact ⟨k + 1, by omega, by go_num, by rw [← HF.out], HK3.out⟩
        case measure => simp [intOf]; omega
      · have hlt' : ¬ (k : Int) < (x.slots.length : Int) := by omega
        have HJ := Lib.hid (show x.slots.take k = x.slots from List.take_of_length_le (by omega))
        rw [HJ.out]
        obtain ⟨h2, hh2⟩ : ∃ h2, hl ++ slotsL x.slots = h2 := ⟨_, rfl⟩
        have hz2 : h2.length ≤ 60 := by rw [← hh2, List.length_append]; have := slotsL_len x.slots; omega
        have HH2 := Lib.hid hh2
        rw [hh2]
        have HX2 := HK2
        clear hh2 HJ HS2 HK2 hlt hk hz
        go_wp2
        clear hlt'
        go_loopw [3, 5] (fun v i wr => ∃ j : Nat, j ≤ x.queue.length ∧ i = .int .i64 j ∧ v = .string (B (h2 ++ queueL (x.queue.take j))) ∧ Kn w [(w.heap.size, 37, x.cs s q)] wr) (fun _ i _ => x.queue.length - (intOf i).toNat)
        case atStart => exact ⟨0, by omega, rfl, by simp [queueL], HX2.out⟩
        case round =>
          clear HX2 c0 c4 c5
          obtain ⟨j, hj, rfl, rfl, K2⟩ := hrel
          have c0 := K2.c (b := w.heap.size) (T := 37) (vs := x.cs s q) (by simp) 0 _ rfl
          have c5 := K2.c (b := w.heap.size) (T := 37) (vs := x.cs s q) (by simp) 6 _ rfl
          have c6 := K2.c (b := w.heap.size) (T := 37) (vs := x.cs s q) (by simp) 7 _ rfl
          have HQ2 := Lib.hid (HQ.out.stay K2.1)
          have HK2 := Lib.hid K2
          clear K2
          by_cases hlt : j < x.queue.length
          · have hlt' : (j : Int) < (x.queue.length : Int) := by omega
            obtain ⟨b, o, ea, d0⟩ := HQ2.out.at hlt
            have OR := Lib.hid (HQB.out (x.queue[j]) (List.getElem_mem hlt))
            have HTK := Lib.hid (queueL_more x.queue j hlt)
            obtain ⟨r, hr⟩ : ∃ r, x.queue[j] = r := ⟨_, rfl⟩
            rw [hr] at d0 OR HTK
            have zk := queueL_len (x.queue.take j)
            have zk2 : (x.queue.take j).length = j := by rw [List.length_take]; omega
            obtain ⟨pre, hpre⟩ : ∃ pre, B (h2 ++ queueL (x.queue.take j)) = pre := ⟨_, rfl⟩
            have zp : pre.size ≤ 90 := by rw [← hpre, B_size]; simp only [List.length_append]; omega
            obtain ⟨tr, htr⟩ : ∃ tr, B (decL r) = tr := ⟨_, rfl⟩
            have zt : tr.size ≤ 2 := by rw [← htr]; exact dec_len r
            have y1 : ¬ 9223372036854775807 < pre.size + 2 := by omega
            have y2 : ¬ 9223372036854775807 < pre.size + 2 + tr.size := by omega
            have HF := Lib.hid (show pre ++ ⟨#[32, 60]⟩ ++ tr = B (h2 ++ queueL (x.queue.take (j + 1))) by
              rw [← hpre, ← htr, HTK.out, show (⟨#[32, 60]⟩ : ByteArray) = B [32, 60] from rfl]
              simp only [B_app, List.append_assoc, List.cons_append, List.nil_append])
            have HT := Lib.hid (show ∀ y, Calls Tryd.prog 85 #[.int .i64 r] y fun e w' => e = .returned (.string tr) ∧ Below y.heap.size y w' from fun y => htr ▸ l6Dec_all r y (by have := OR.out; omega))
            rw [hpre]
            clear zk zk2 hpre zp zt htr hr
            go_wp2_with fail
            refine (HT.out _).mono ?_
            rintro e y ⟨rfl, hb⟩
            have HK3 := Lib.hid (HK2.out.stay hb)
            clear hb HK2 d0 c0 c5 c6
            go_wp2
            go_roundw
            case rel => exact ⟨j + 1, by omega, by go_num, by rw [← HF.out], HK3.out⟩
            case measure => simp [intOf]; omega
          · have hlt' : ¬ (j : Int) < (x.queue.length : Int) := by omega
            have HJ := Lib.hid (show x.queue.take j = x.queue from List.take_of_length_le (by omega))
            rw [HJ.out]
            obtain ⟨pre, hpre⟩ : ∃ pre, B (h2 ++ queueL x.queue) = pre := ⟨_, rfl⟩
            have zp : pre.size ≤ 90 := by rw [← hpre, B_size, List.length_append]; have := queueL_len x.queue; omega
            by_cases h5 : x.kind = 5
            · have TO := Lib.hid (okT_to HX.out h5)
              have c0' : wr.cell? ⟨w.heap.size, 0, none⟩ = some (.int .i64 5) := by rw [← h5]; exact c0
              obtain ⟨tr, htr⟩ : ∃ tr, B (decL x.to) = tr := ⟨_, rfl⟩
              have zt : tr.size ≤ 2 := by rw [← htr]; exact dec_len _
              have y1 : ¬ 9223372036854775807 < pre.size + 2 := by omega
              have y2 : ¬ 9223372036854775807 < pre.size + 2 + tr.size := by omega
              have y3 : ¬ 9223372036854775807 < pre.size + 2 + tr.size + 1 := by omega
              have HF := Lib.hid (show pre ++ ⟨#[32, 62]⟩ ++ tr ++ ⟨#[10]⟩ = B (thingL x) by
                rw [← hpre, ← htr, ← HH2.out, ← HHL.out, show (⟨#[32, 62]⟩ : ByteArray) = B [32, 62] from rfl, show (⟨#[10]⟩ : ByteArray) = B [10] from rfl]
                rw [thingL_head, if_pos h5]
                simp only [B_app, List.append_assoc, List.cons_append, List.nil_append])
              have HT := Lib.hid (show ∀ y, Calls Tryd.prog 85 #[.int .i64 x.to] y fun e w' => e = .returned (.string tr) ∧ Below y.heap.size y w' from fun y => htr ▸ l6Dec_all x.to y (by have := TO.out; omega))
              rw [hpre]
              clear hpre zp zt htr c0 h5 hlt HJ hj
              go_wp2_with fail
              refine (HT.out _).mono ?_
              rintro e y ⟨rfl, hb⟩
              have HK3 := Lib.hid (HK2.out.stay hb)
              clear hb HK2 c0' c5 c6
              go_wp2
              go_ret
              exact ⟨by rw [← HF.out]; rfl, HK3.out.1⟩
            · have h5' : (x.kind == 5) = false := by simpa using h5
              have y1 : ¬ 9223372036854775807 < pre.size + 1 := by omega
              have HF := Lib.hid (show pre ++ ⟨#[10]⟩ = B (thingL x) by
                rw [← hpre, ← HH2.out, ← HHL.out, show (⟨#[10]⟩ : ByteArray) = B [10] from rfl]
                rw [thingL_head, if_neg h5]
                simp only [B_app, List.append_assoc, List.nil_append])
              rw [hpre]
              clear hpre zp hlt HJ hj h5
              go_wp2
              go_ret
              exact ⟨by rw [← HF.out]; rfl, HK2.out.1⟩
end Go.Proofs.YtpahahonopiblaaDoor

namespace Go.Proofs.YtpahahonopiblaaDoor
open Go.RowKit
set_option linter.unusedVariables false
set_option maxRecDepth 100000

theorem thing_len {x : T8} (h : okT x = true) : (thingL x).length ≤ 62 := by
  have h1 := head_len x
  have h2 := slotsL_len x.slots
  have h3 := queueL_len x.queue
  have h4 := okT_slots h
  have h5 := (x_okT_queue h).1
  have h6 := decL_len x.to
  rw [thingL_head]
  simp only [List.length_append, List.length_cons, List.length_nil]
  split <;> simp only [List.length_cons, List.length_nil] <;> omega
theorem tab_size {l : List T8} (h : ∀ x ∈ l, okT x = true) (i : Nat) : (tabL i l).length ≤ 65 * l.length := by
  induction l generalizing i with
  | nil => simp [tabL]
  | cons x l ih =>
    have h1 := thing_len (h x (by simp))
    have h2 := ih (fun y hy => h y (by simp [hy])) (i + 1)
    have h3 := decL_len ((i : Int) + 1)
    simp only [tabL, List.length_append, List.length_cons]
    omega
theorem tab_more1 (l : List T8) (k : Nat) (h : k < l.length) : tabL 0 (l.take (k + 1)) = tabL 0 (l.take k) ++ (decL ((k : Int) + 1) ++ 32 :: thingL l[k]) := by
  rw [List.take_succ_eq_append_getElem h, tab_app]
  have : 0 + (l.take k).length = k := by rw [List.length_take]; omega
  rw [this]
  simp only [tabL, List.append_nil]
theorem tab_all {l : List T8} (h : tabOk l = true) : ∀ x ∈ l, okT x = true := fun x hx => by
  simp only [tabOk, Bool.and_eq_true] at h
  have := List.all_eq_true.1 h.1 x hx
  simp only [elemOk, Bool.and_eq_true] at this
  exact this.1
theorem HasT.ne2 {w : World} {s : Sl} {l : List T8} (h : HasT w s l) {j : Nat} (hj : j < l.length) : ∃ b o, s.a = some ⟨b, o, none⟩ ∧ Tb w b o l := by
  rcases h.2.2 with h0 | h0
  · subst h0; simp at hj
  · exact h0
theorem dec1 {k : Nat} (h : k < 90) : -9 ≤ (k : Int) + 1 ∧ (k : Int) + 1 ≤ 99 := by omega

set_option maxHeartbeats 8000000 in
theorem l3Text_any (l : List T8) (s : Sl) (w : World) (hT : HasT w s l) (hok : ∀ x ∈ l, okT x = true) (hz : l.length ≤ 80) :
    Calls Tryd.prog 46 #[.slice s.a s.n s.c] w fun e w' => e = .returned (.string (B (tabL 0 l))) ∧ Below w.heap.size w w' := by
  have HT := Lib.hid hT
  have HOK := Lib.hid hok
  have sn := hT.1
  clear hT hok
  go_enter Tryd.func46, Tryd.ntmps46
  go_wp2
  go_loopw [3, 4] (fun v i wr => ∃ k : Nat, k ≤ l.length ∧ i = .int .i64 k ∧ v = .string (B (tabL 0 (l.take k))) ∧ Kn w [] wr) (fun _ i _ => l.length - (intOf i).toNat)
  case atStart => exact ⟨0, by omega, rfl, by simp [tabL]; rfl, Kn.refl⟩
  case round =>
    obtain ⟨k, hk, rfl, rfl, K2⟩ := hrel
    have HK2 := Lib.hid K2
    clear K2
    by_cases hlt : k < l.length
    · have hlt' : (k : Int) < (l.length : Int) := by omega
      obtain ⟨b, o, ea, hTb⟩ := (HT.out.stay HK2.out.1).ne2 hlt
      obtain ⟨ss, qs, hR, hQ, hA⟩ := hTb k hlt
      have OX := Lib.hid (HOK.out l[k] (List.getElem_mem hlt))
      have HTK := Lib.hid (tab_more1 l k hlt)
      have zk := tab_size (l := l.take k) (fun x hx => HOK.out x (List.mem_of_mem_take hx)) 0
      have zk2 : (l.take k).length = k := by rw [List.length_take]; omega
      obtain ⟨x, hx⟩ : ∃ x, l[k] = x := ⟨_, rfl⟩
      rw [hx] at hR hQ hA OX HTK
      have c0 : wr.cell? ⟨b, o + k * 8, none⟩ = some (.int .i64 x.kind) := hA 0 _ rfl
      have c1 := hA 1 _ rfl
      have c2 := hA 2 _ rfl
      have c3 := hA 3 _ rfl
      have c4 := hA 4 _ rfl
      have c5 := hA 5 _ rfl
      have c6 := hA 6 _ rfl
      have c7 := hA 7 _ rfl
      obtain ⟨pre, hpre⟩ : ∃ pre, B (tabL 0 (l.take k)) = pre := ⟨_, rfl⟩
      have zp : pre.size ≤ 6000 := by rw [← hpre, B_size]; omega
      obtain ⟨td, htd⟩ : ∃ td, B (decL ((k : Int) + 1)) = td := ⟨_, rfl⟩
      have zd : td.size ≤ 2 := by rw [← htd]; exact dec_len _
      obtain ⟨tr, htr⟩ : ∃ tr, B (thingL x) = tr := ⟨_, rfl⟩
      have zt : tr.size ≤ 62 := by rw [← htr, B_size]; exact thing_len OX.out
      have y1 : ¬ 9223372036854775807 < pre.size + td.size := by omega
      have y2 : ¬ 9223372036854775807 < pre.size + td.size + 1 := by omega
      have y3 : ¬ 9223372036854775807 < pre.size + td.size + 1 + tr.size := by omega
      have HF := Lib.hid (show pre ++ td ++ ⟨#[32]⟩ ++ tr = B (tabL 0 (l.take (k + 1))) by
        rw [← hpre, ← htd, ← htr, HTK.out, show (⟨#[32]⟩ : ByteArray) = B [32] from rfl]
        simp only [B_app, List.append_assoc, List.cons_append, List.nil_append])
      have wk1 : wrap64 ((k : Int) + 1) = (k : Int) + 1 := by unfold wrap64; omega
      have wk2 : IntKind.i64.wrap ((k : Int) + 1) = (k : Int) + 1 := IntWalk.i64_in _ (by omega)
      have wk3 : IntKind.i64.wrap (k : Int) = (k : Int) := IntWalk.i64_in _ (by omega)
      have G1 := Lib.hid (show ∀ y, Calls Tryd.prog 85 #[.int .i64 ((k : Int) + 1)] y fun e w' => e = .returned (.string td) ∧ Below y.heap.size y w' from fun y => htd ▸ l6Dec_all _ y (dec1 (by omega)))
      have G2 := Lib.hid (show ∀ zz : Wd (Kn wr []), Calls Tryd.prog 86 #[x.val ss qs] zz.w fun e w' => e = .returned (.string tr) ∧ Below zz.w.heap.size zz.w w' from fun zz => htr ▸ l3Thing_any x ss qs zz.w OX.out (hR.stay zz.ok.1) (hQ.stay zz.ok.1))
      rw [hpre]
      clear zk zk2 hpre zp zt zd htr htd hx hR hQ hA hTb
      have cc0 := fun zz : Wd (Kn wr []) => stayCell c0 zz.ok.1
      have cc1 := fun zz : Wd (Kn wr []) => stayCell c1 zz.ok.1
      have cc2 := fun zz : Wd (Kn wr []) => stayCell c2 zz.ok.1
      have cc3 := fun zz : Wd (Kn wr []) => stayCell c3 zz.ok.1
      have cc4 := fun zz : Wd (Kn wr []) => stayCell c4 zz.ok.1
      have cc5 := fun zz : Wd (Kn wr []) => stayCell c5 zz.ok.1
      have cc6 := fun zz : Wd (Kn wr []) => stayCell c6 zz.ok.1
      have cc7 := fun zz : Wd (Kn wr []) => stayCell c7 zz.ok.1
      have ne : Nonempty (Wd (Kn wr [])) := ⟨⟨_, Kn.refl⟩⟩
      clear c0 c1 c2 c3 c4 c5 c6 c7
      go_upto_region 5 with fail
      refine wp_region_quiet (C := fun y => ∃ t : Wd (Kn wr []), y = t.w) (by kernel_rfl) (by kernel_rfl) ⟨⟨_, Kn.refl.drew⟩, rfl⟩ ?_
      show wpQuiet _ _ _ _ [_, _, _, _, _, _, _, _, _, _, _, _, _] _
      repeat (first | go_big_quiet_step ((first | (go_at_call 85; with_reducible exact inCls Kn.stay (G1.out _)) | (go_at_call 86; with_reducible exact inCls Kn.stay (G2.out _)))) | quiet_step ((first | (go_at_call 85; with_reducible exact inCls Kn.stay (G1.out _)) | (go_at_call 86; with_reducible exact inCls Kn.stay (G2.out _)))))
      refine wpQuiet_nil ?_
      rintro y9 ⟨⟨_, K9⟩, rfl⟩
      have HK9 := Lib.hid (HK2.out.stay K9.1)
      clear ne cc0 cc1 cc2 cc3 cc4 cc5 cc6 cc7 K9
      go_wp2
      go_roundw
      case rel => exact ⟨k + 1, by omega, by go_num, by rw [← HF.out], HK9.out⟩
      case measure => simp [intOf]; omega
    · have hlt' : ¬ (k : Int) < (l.length : Int) := by omega
      have HJ := Lib.hid (show l.take k = l from List.take_of_length_le (by omega))
      rw [HJ.out]
      go_wp2
      go_ret
      exact ⟨rfl, HK2.out.1⟩

/-- The text of what may be no table. -/
def textV (l : List T8) : ByteArray := if tabOk l then B (tabL 0 l) else ⟨#[]⟩
theorem specTabText_any (l : List T8) (s : Sl) (w : World) (ht : HasT w s l) (hz : l.length ≤ 1048576) (hzs : ∀ i (h : i < l.length), l[i].slots.length ≤ 1048576) :
    Calls Tryd.prog 14 #[.slice s.a s.n s.c] w fun e w' => e = .returned (.string (textV l)) ∧ Below w.heap.size w w' := by
  have HT := Lib.hid ht
  have HZ := Lib.hid hzs
  clear ht hzs
  cases h1 : tabOk l
  · have H1 := Lib.hid (specTabOk_any l s w HT.out hz HZ.out)
    have HV := Lib.hid (show textV l = ⟨#[]⟩ by simp [textV, h1])
    rw [h1] at H1
    clear h1
    go_enter Tryd.func14, Tryd.ntmps14
    go_wp2_with fail
    refine H1.out.mono ?_
    rintro e y1 ⟨rfl, hb⟩
    have HK1 := Lib.hid (Kn.start hb)
    clear hb
    go_wp2
    go_ret
    exact ⟨by rw [HV.out]; rfl, HK1.out.1⟩
  · have H1 := Lib.hid (specTabOk_any l s w HT.out hz HZ.out)
    have HO := Lib.hid (tab_all h1)
    have HL := Lib.hid (tabOk_len h1)
    have HV := Lib.hid (show textV l = B (tabL 0 l) by simp [textV, h1])
    rw [h1] at H1
    clear h1
    go_enter Tryd.func14, Tryd.ntmps14
    go_wp2_with fail
    refine H1.out.mono ?_
    rintro e y1 ⟨rfl, hb⟩
    have HK1 := Lib.hid (Kn.start hb)
    clear hb
    go_wp2_with fail
    refine (l3Text_any l s _ (HT.out.stay HK1.out.1) HO.out (by have := HL.out; omega)).mono ?_
    rintro e y2 ⟨rfl, hb⟩
    have HK2 := Lib.hid (HK1.out.stay hb)
    clear hb HK1
    go_wp2
    go_ret
    exact ⟨by rw [HV.out]; rfl, HK2.out.1⟩
end Go.Proofs.YtpahahonopiblaaDoor

namespace Go.Proofs.YtpahahonopiblaaDoor
open Go.RowKit
set_option linter.unusedVariables false
set_option maxRecDepth 100000

/-- The library's table of powers, as its own text lays it. -/
def TP (w : World) : Prop := Lib.TabIs Tryd.prog w "internal/strconv.uint64pow10" .u64 Lib.pow10Tab
theorem TP.stay {w w' : World} (h : TP w) (hb : Below w.heap.size w w') : TP w' := Lib.tabBelow_of_tabIs h w' hb
theorem TP.drew {w : World} (h : TP w) : TP w.drew := h.stay (Below.refl _ _).drew
theorem itoa_neg {n : Int} (h : -9 ≤ n ∧ n < 0) : (⟨(Lib.itoa n).toArray⟩ : ByteArray) = B (decL n) := by
  rcases (by omega : n = -9 ∨ n = -8 ∨ n = -7 ∨ n = -6 ∨ n = -5 ∨ n = -4 ∨ n = -3 ∨ n = -2 ∨ n = -1) with rfl | rfl | rfl | rfl | rfl | rfl | rfl | rfl | rfl <;> decide +kernel
theorem itoa_all (n : Int) (w : World) (ht : TP w) (h : -9 ≤ n ∧ n ≤ 99) :
    Calls Tryd.prog 48 #[.int .i64 n] w fun e w' => e = .returned (.string (B (decL n))) ∧ Below w.heap.size w w' := by
  by_cases h0 : n < 0
  · refine (Tryd.strconv_Itoa n (by omega) (by omega) w ht).mono ?_
    rintro e w' ⟨rfl, k, os, rfl⟩
    exact ⟨by rw [itoa_neg ⟨h.1, h0⟩], Lib.below_grow _ _ (Nat.le_refl _) _ _⟩
  · by_cases h9 : n ≤ 9
    · refine (itoa_any n w (by omega) h9).mono ?_
      rintro e w' ⟨rfl, rfl⟩
      exact ⟨by rw [← decT_B, decT_one (by omega) h9], Below.refl _ _⟩
    · refine (itoa_two n w (by omega) (by omega)).mono ?_
      rintro e w' ⟨rfl, rfl⟩
      exact ⟨by rw [decT_B], Below.refl _ _⟩
theorem itoa_val {n : Int} {s : ByteArray} (hs : B (decL n) = s) (w : World) (ht : TP w) (h : -9 ≤ n ∧ n ≤ 99) :
    Calls Tryd.prog 48 #[.int .i64 n] w fun e w' => e = .returned (.string s) ∧ Below w.heap.size w w' := by
  subst hs; exact itoa_all n w ht h
end Go.Proofs.YtpahahonopiblaaDoor

namespace Go.Proofs.YtpahahonopiblaaDoor
open Go.RowKit
section
variable {F : Fence} {n : Nat} {P : Program} {ops : Array Oper} {Q : Exit → Act → World → Prop}

/-- ONE STEP AN OPERATION. -/
theorem wpIn_region_inv {id : Nat} {a : Act} {w : World} (hm : P.follows .mixedOrders = true) (hbk : backward ops = true) (I : (Nat → Bool) → Act → World → Prop)
    (h0 : I (fun _ => false) a w.drew)
    (hs : ∀ (L : Nat → Bool) (a : Act) (w : World) (i : Nat) (o : Oper), I L a w → ops[i]? = some o → L i = false → (∀ e ∈ o.after, Region.binds .any e = true → L e.on = true) →
      ∀ K : Act → World → Prop, (∀ a w, I (fun k => if k = i then true else L k) a w → K a w) → if Region.wanted o (yielded ops a.tmps) = true then Oper.wpIn F n P o a w K Q else (∀ f, o.about P w a.eval = some f → F.fn f) ∧ K (a.put o.dst undef) w)
    (hf : ∀ (L : Nat → Bool) (a : Act) (w : World), I L a w → (∀ i, i < ops.size → L i = true) → Q .normal a w) : (Code.region id ops true).wpIn F n P Q a w := by
  refine wpIn_region_any hm ?_
  have key : ∀ (fuel : Nat) (listed : Array Bool) (a : Act) (w : World), listed.size = ops.size → unlisted listed ≤ fuel → I (fun j => listed.getD j false) a w → wpAnyIn F n P .any ops Q fuel listed a w := by
    intro fuel
    induction fuel with
    | zero =>
      intro listed a w hz hu hI
      have hr : Region.ready .any ops listed = [] := by
        cases hr : Region.ready .any ops listed with
        | nil => rfl
        | cons i rs =>
          have hm : i ∈ Region.ready .any ops listed := by rw [hr]; exact List.mem_cons_self
          have := unlisted_set (mem_ready.1 hm).1
          omega
      exact ⟨hr, hf _ _ _ hI (fun i hi => ready_nil hbk hz hr i hi)⟩
    | succ fuel ih =>
      intro listed a w hz hu hI
      refine ⟨fun hr => hf _ _ _ hI (fun i hi => ready_nil hbk hz hr i hi), fun i hi => ?_⟩
      obtain ⟨hl, o, ho, hdep⟩ := mem_ready.1 hi
      have hlt : i < listed.size := by
        rcases Nat.lt_or_ge i listed.size with h1 | h1
        · exact h1
        · simp [Array.getD, Nat.not_lt.2 h1] at hl
      have hl' : listed.getD i false = false := by simpa [Array.getD, hlt] using hl
      refine wpOpIn_step ho (fun K' hK => hs (fun j => listed.getD j false) a w i o hI ho hl' hdep K' (fun a' w' hI' => hK a' w' (ih _ a' w' ?_ ?_ ?_)))
      · simpa using hz
      · have := unlisted_set hl
        omega
      · have he : (fun k => if k = i then true else listed.getD k false) = (fun j => (listed.setIfInBounds i true).getD j false) := by
          funext k
          by_cases hk : k = i
          · subst hk
            simp [Array.getD, hlt]
          · rw [if_neg hk, getD_set_ne false (fun e => hk e.symm)]
        rw [← he]
        exact hI'
  refine key ops.size _ a _ (by simp) ?_ ?_
  · unfold unlisted
    exact Nat.le_trans List.countP_le_length (by simp)
  · have he : (fun j => (Array.replicate ops.size false).getD j false) = (fun _ => false) := by
      funext k
      by_cases hk : k < ops.size
      · simp [Array.getD, hk]
      · simp [Array.getD, hk]
    rw [he]
    exact h0

/-- One step for each operation of a list, from number i on. -/
def StepsIn (F : Fence) (n : Nat) (P : Program) (ops : Array Oper) (Q : Exit → Act → World → Prop) (I : (Nat → Bool) → Act → World → Prop) (i : Nat) : List Oper → Prop
  | [] => True
  | o :: rest => (∀ (L : Nat → Bool) (a : Act) (w : World), I L a w → L i = false → (o.after.toList.all fun e => L e.on) = true →
      ∀ K : Act → World → Prop, Hid (∀ a w, I (upd L i) a w → K a w) → if Region.wanted o (yielded ops a.tmps) = true then Oper.wpIn F n P o a w K Q else (∀ f, o.about P w a.eval = some f → F.fn f) ∧ K (a.put o.dst undef) w) ∧ StepsIn F n P ops Q I (i + 1) rest

theorem StepsIn.get {I : (Nat → Bool) → Act → World → Prop} : ∀ (l : List Oper) (i j : Nat) (o : Oper), StepsIn F n P ops Q I i l → l[j]? = some o →
    ∀ (L : Nat → Bool) (a : Act) (w : World), I L a w → L (i + j) = false → (o.after.toList.all fun e => L e.on) = true →
      ∀ K : Act → World → Prop, Hid (∀ a w, I (upd L (i + j)) a w → K a w) → if Region.wanted o (yielded ops a.tmps) = true then Oper.wpIn F n P o a w K Q else (∀ f, o.about P w a.eval = some f → F.fn f) ∧ K (a.put o.dst undef) w := by
  intro l
  induction l with
  | nil => intro i j o _ h; simp at h
  | cons x rest ih =>
    intro i j o hS h
    cases j with
    | zero =>
      simp at h
      subst h
      simpa using hS.1
    | succ j =>
      simp at h
      have := ih (i + 1) j o hS.2 h
      have e : i + 1 + j = i + (j + 1) := by omega
      rw [e] at this
      exact this

/-- A REGION, ONE STEP AN OPERATION. -/
theorem wpIn_region_steps {id : Nat} {a : Act} {w : World} (hm : P.follows .mixedOrders = true) (hbk : backward ops = true) (hpl : plain ops = true) (I : (Nat → Bool) → Act → World → Prop)
    (h0 : I (fun _ => false) a w.drew) (hs : StepsIn F n P ops Q I 0 ops.toList)
    (hf : ∀ (L : Nat → Bool) (a : Act) (w : World), I L a w → (∀ i, i < ops.size → L i = true) → Q .normal a w) : (Code.region id ops true).wpIn F n P Q a w := by
  refine wpIn_region_inv hm hbk I h0 (fun L a w i o hI ho hL hdep K hK => ?_) hf
  have hoL : ops.toList[i]? = some o := by simpa using ho
  have := StepsIn.get ops.toList 0 i o hs hoL L a w hI (by simpa using hL) ?_ K (by rw [Nat.zero_add]; exact hK)
  · exact this
  · rw [List.all_eq_true]
    intro e he
    refine hdep e (by simpa using he) ?_
    have h1 := Array.all_eq_true_iff_forall_mem.1 hpl o (Array.mem_of_getElem? ho)
    exact Array.all_eq_true_iff_forall_mem.1 h1 e (by simpa using he)
end
end Go.Proofs.YtpahahonopiblaaDoor

namespace Go.Proofs.YtpahahonopiblaaDoor
open Go.RowKit Go.Shelf
set_option linter.unusedVariables false
attribute [local go_sem] Oper.semAt_some

/-- All blocks below n stay, but one. -/
def KpB (n b : Nat) (A B : World) : Prop := A.heap.size ≤ B.heap.size ∧ ∀ j, j < A.heap.size → j < n → j ≠ b → B.heap[j]? = A.heap[j]?
theorem KpB.refl (n b : Nat) (A : World) : KpB n b A A := ⟨Nat.le_refl _, fun _ _ _ _ => rfl⟩
theorem KpB.trans {n b : Nat} {A B C : World} (h : KpB n b A B) (k : KpB n b B C) : KpB n b A C := ⟨Nat.le_trans h.1 k.1, fun j h1 h2 h3 => (k.2 j (Nat.lt_of_lt_of_le h1 h.1) h2 h3).trans (h.2 j h1 h2 h3)⟩
theorem KpB.below {n b : Nat} {A B : World} (h : Below A.heap.size A B) : KpB n b A B := ⟨h.size, fun j h1 _ _ => h.block j h1⟩
theorem KpB.put {n b : Nat} (W : World) (l : Nat) (o' : Obj) (hl : n ≤ l) : KpB n b W (W.putObj l o') :=
  ⟨by simp, fun j _ h2 _ => World.putObj_heap_other (by omega)⟩
theorem KpB.set {n b o : Nat} (W : World) (v : Value) : KpB n b W (W.setCell ⟨b, o, none⟩ v) :=
  ⟨by simp [World.setCell], fun j _ _ h3 => Below.heap_setCell W ⟨b, o, none⟩ v j h3⟩
theorem At.keepB {n b b' o : Nat} {W W' : World} {cs : Array Value} (h : At W b' o cs) (hk : KpB n b W W') (hn : W.heap.size ≤ n) (hne : b' ≠ b) : At W' b' o cs := fun j v hv => by
  have h1 := h j v hv
  have h2 := cell_lt h1
  unfold World.cell? at h1 ⊢
  dsimp only at h1 ⊢
  rw [hk.2 b' h2 (Nat.lt_of_lt_of_le h2 hn) hne]
  exact h1
theorem At.ne_str {b b' o : Nat} {W : World} {cs : Array Value} {T : TypeId} {t : ByteArray} {n : Int} (h : At W b' o cs) (h0 : cs[0]? = some (.int .i64 n)) (hb : Box W b T #[.string t]) : b' ≠ b := fun e => by
  subst e
  have h1 := h 0 _ h0
  rw [hb.at] at h1
  cases o with
  | zero => simp at h1
  | succ o => simp at h1
theorem HasR.keepB {n b : Nat} {W W' : World} {s : Sl} {l : List R5} {T : TypeId} {t : ByteArray} (h : HasR W s l) (hk : KpB n b W W') (hn : W.heap.size ≤ n) (hb : Box W b T #[.string t]) : HasR W' s l := by
  obtain ⟨h1, h2, h3⟩ := h
  refine ⟨h1, h2, ?_⟩
  rcases h3 with h3 | ⟨b', o, e, h3⟩
  · exact .inl h3
  · exact .inr ⟨b', o, e, fun i x hx => (h3 i x hx).keepB hk hn (by
      obtain ⟨r, hr, rfl⟩ : ∃ r, l[i]? = some r ∧ r.cs = x := by simpa using hx
      exact (h3 i _ hx).ne_str rfl hb)⟩
theorem HasQ.keepB {n b : Nat} {W W' : World} {s : Sl} {l : List Int} {T : TypeId} {t : ByteArray} (h : HasQ W s l) (hk : KpB n b W W') (hn : W.heap.size ≤ n) (hb : Box W b T #[.string t]) : HasQ W' s l := by
  obtain ⟨h1, h2, h3⟩ := h
  refine ⟨h1, h2, ?_⟩
  rcases h3 with h3 | ⟨b', o, e, h3⟩
  · exact .inl h3
  · exact .inr ⟨b', o, e, fun i x hx => (h3 i x hx).keepB hk hn (by
      obtain ⟨r, hr, rfl⟩ : ∃ r, l[i]? = some r ∧ #[Value.int .i64 r] = x := by simpa using hx
      exact (h3 i _ hx).ne_str rfl hb)⟩
theorem Tb.keepB {n b b' o : Nat} {W W' : World} {l : List T8} {T : TypeId} {t : ByteArray} (h : Tb W b' o l) (hk : KpB n b W W') (hn : W.heap.size ≤ n) (hb : Box W b T #[.string t]) : Tb W' b' o l := fun i hi => by
  obtain ⟨ss, qs, h1, h2, h3⟩ := h i hi
  exact ⟨ss, qs, h1.keepB hk hn hb, h2.keepB hk hn hb, h3.keepB hk hn (h3.ne_str rfl hb)⟩

set_option maxRecDepth 100000 in
set_option maxHeartbeats 4000000 in
theorem iter_inK (Kp : World → World → Prop) (kr : ∀ A, Kp A A) (kt : ∀ A B C, Kp A B → Kp B C → Kp A C) (kb : ∀ A B, Below A.heap.size A B → Kp A B) (n : Nat) (hn : 1 ≤ n) (l Bs b o c : Nat) (tl : List T8) (hz : tl.length ≤ 1048576) (W : World)
    (J Jx : List R5 → World → Prop) (hJ : AbidesFrom W.heap.size J)
    (hY : ∀ pre x W1, J pre W1 → pre.length < (rts tl).length → YieldAt Fence.wide (n - 1) Tryd.prog l #[rgt x.t x.v x.r x.w x.k] W1 fun e W' =>
      (e = .returned (.bool true) ∧ J (pre ++ [x]) W' ∧ Kp W1 W') ∨ (e = .returned (.bool false) ∧ Jx (pre ++ [x]) W'))
    (hc : W.cell? ⟨Bs, 0, none⟩ = some (.slice (some ⟨b, o, none⟩) tl.length c)) (hT : ∀ W', Kp W W' → Tb W' b o tl) (h0 : J [] W) :
    CallsIn Fence.wide n Tryd.prog 100 #[.func (.yield l) #[] #[], .pointer (some ⟨Bs, 0, none⟩)] W fun e W' => (∃ v, e = .returned v) ∧
      ((∃ ys, ys = rts tl ∧ J ys W') ∨ (∃ pre, pre <+: rts tl ∧ Jx pre W')) := by
  have KR := Lib.hid kr
  have KT := Lib.hid kt
  have KB := Lib.hid kb
  clear kr kt kb
  have HT := Lib.hid hT
  have HJ := Lib.hid hJ
  have HY := Lib.hid hY
  have H0 := Lib.hid h0
  clear hT hJ hY h0
  refine callsIn_of_wp Tryd.func100 rfl trivial ?_ rfl
  simp only [Tryd.ntmps100, List.size_toArray, List.length_cons, List.length_nil, Nat.reduceAdd, Nat.reduceSub, Array.replicate_succ, Array.replicate_zero, List.push_toArray, List.append_toArray, List.nil_append, List.cons_append]
  gi_wp2
  clear hc
  gi_loopw [11] (fun i wr => ∃ k : Nat, k ≤ tl.length ∧ i = .int .i64 k ∧ J (rts (tl.take k)) wr ∧ Kp W wr) (fun i _ => tl.length - (intOf i).toNat)
  case atStart => exact ⟨0, Nat.zero_le _, rfl, H0.out, KR.out _⟩
  case round =>
    obtain ⟨k, hk, rfl, hJs, hnx⟩ := hrel
    have HJs := Lib.hid hJs
    have HN := Lib.hid hnx
    clear hJs hnx
    by_cases hlt : k < tl.length
    · have hlt' : (k : Int) < (tl.length : Int) := by omega
      obtain ⟨ss, qs, hR, hQ, hA⟩ := HT.out wr HN.out k hlt
      have hlt2 := cell_lt (hA 0 _ rfl)
      have HR := Lib.hid hR
      have HX := Lib.hid (rts_succ tl k hlt)
      have HL := Lib.hid (rts_len tl k)
      have HS := Lib.hid (rts_pre tl (k + 1))
      clear hQ
      generalize hx : tl[k] = x at *
      have HXX := Lib.hid hx
      clear hx
      have d0 : wr.cell? ⟨b, o + k * 8, none⟩ = some (.int .i64 x.kind) := hA 0 _ rfl
      have d1 := hA 1 _ rfl
      have d2 := hA 2 _ rfl
      have d3 := hA 3 _ rfl
      have d4 := hA 4 _ rfl
      have d5 := hA 5 _ rfl
      have d6 := hA 6 _ rfl
      have d7 := hA 7 _ rfl
      have hB1 : Below wr.heap.size wr (wr.alloc (.cells (x.cs ss qs) 37)) := (Below.refl _ _).alloc (Nat.le_refl _) _
      have HB1 := Lib.hid hB1
      clear hA hB1 hR
      by_cases h4 : x.slots.length = 4
      · obtain ⟨a1, a2, a3, a4, hxs⟩ : ∃ a1 a2 a3 a4, x.slots = [a1, a2, a3, a4] := by
          match hm : x.slots, h4 with
          | [a1, a2, a3, a4], _ => exact ⟨_, _, _, _, rfl⟩
        have HC := Lib.hid (slotsOf_yes x ss qs a1 a2 a3 a4 _ hxs (HR.out.stay HB1.out))
        have HX4 := Lib.hid h4
        have HXS := Lib.hid hxs
        clear h4 hxs
        gi_wp2_with fail
        refine ⟨trivial, ?_⟩
        refine (callsIn_wide.2 HC.out).mono ?_
        rintro e y1 ⟨rfl, hb⟩
        have HB2 := Lib.hid (goB HB1.out hb)
        clear hb d0 d1 d2 d3 d4 d5 d6 d7 HC
        gi_wp2_with (first
          | refine wpListIn_store_rowTo rfl 89 (.tmp 5) (.tmp 18) rfl rfl y1.heap.size (sl20 a1 a2 a3 a4) rfl rfl 89 zr20 (Box.fresh y1 89 zr20) infoS rfl (one20 a1 a2 a3 a4) ?_
          | refine wpListIn_load_row rfl 89 (.tmp 5) rfl y1.heap.size rfl 89 (sl20 a1 a2 a3 a4) (0, 0) _ (setRow_box (Box.fresh y1 89 zr20) (sl20 a1 a2 a3 a4)) Tryd.underlying89 rfl infoS ?_)
        have hB3 : Below wr.heap.size wr ((y1.alloc (.cells zr20 89)).setRow y1.heap.size (sl20 a1 a2 a3 a4)) := (HB2.out.alloc HB2.out.size _).trans (setRow_below HB2.out.size _)
        have HB3 := Lib.hid hB3
        clear hB3
        generalize (y1.alloc (.cells zr20 89)).setRow y1.heap.size (sl20 a1 a2 a3 a4) = y2 at *
        gi_loopw [23] (fun i wr2 => ∃ m : Nat, m ≤ 4 ∧ i = .int .i64 m ∧ J (rts (tl.take k) ++ [a1, a2, a3, a4].take m) wr2 ∧ Kp W wr2) (fun i _ => 4 - (intOf i).toNat)
        case atStart => exact ⟨0, by omega, rfl, by simpa using abides HJ.out HJs.out HB3.out, KT.out _ _ _ HN.out (KB.out _ _ HB3.out)⟩
        case round =>
          obtain ⟨m, hm, rfl, hJm, hnm⟩ := hrel
          have HJm := Lib.hid hJm
          have HNm := Lib.hid hnm
          clear hJm hnm
          have hcase : m = 0 ∨ m = 1 ∨ m = 2 ∨ m = 3 ∨ m = 4 := by omega
          clear hm
          rcases hcase with rfl | rfl | rfl | rfl | rfl
          · have HB4 := Lib.hid (show Below wr.heap.size wr (wr.alloc (.cells a1.cs 44)) from (Below.refl _ _).alloc (Nat.le_refl _) _)
            obtain ⟨fn, tmps, assign, body, hy, hR⟩ := HY.out (rts (tl.take k) ++ []) a1 (wr.alloc (.cells a1.cs 44)) (abides HJ.out (by simpa using HJm.out) HB4.out) (HL.out 0 hlt (by rw [HXX.out]; exact HX4.out) (by omega) _ rfl)
            have HRR := Lib.hid hR
            have hix := idx0 a1 a2 a3 a4
            clear hR
            gi_wp2
            refine HRR.out.mono ?_
            rintro e W3 (⟨rfl, hJ3, hk3⟩ | ⟨rfl, hJx3⟩)
            · clear hy HRR hix
              gi_wp2
              go_roundw
              case rel => exact ⟨1, by omega, by simp, by simpa using hJ3, KT.out _ _ _ (KT.out _ _ _ HNm.out (KB.out _ _ HB4.out)) hk3⟩
              case measure => simp [intOf]
            · clear hy HRR hix
              gi_wp2
              refine bodyPost_ret (results_none rfl _ _ _) rfl ?_
              refine ⟨⟨_, rfl⟩, .inr ⟨_, ?_, hJx3⟩⟩
              refine List.IsPrefix.trans ?_ HS.out
              rw [HX.out]
              simp [rtsX, HXS.out]
          · have HB4 := Lib.hid (show Below wr.heap.size wr (wr.alloc (.cells a2.cs 44)) from (Below.refl _ _).alloc (Nat.le_refl _) _)
            obtain ⟨fn, tmps, assign, body, hy, hR⟩ := HY.out (rts (tl.take k) ++ [a1]) a2 (wr.alloc (.cells a2.cs 44)) (abides HJ.out (by simpa using HJm.out) HB4.out) (HL.out 1 hlt (by rw [HXX.out]; exact HX4.out) (by omega) _ rfl)
            have HRR := Lib.hid hR
            have hix := idx1 a1 a2 a3 a4
            clear hR
            gi_wp2
            refine HRR.out.mono ?_
            rintro e W3 (⟨rfl, hJ3, hk3⟩ | ⟨rfl, hJx3⟩)
            · clear hy HRR hix
              gi_wp2
              go_roundw
              case rel => exact ⟨2, by omega, by simp, by simpa using hJ3, KT.out _ _ _ (KT.out _ _ _ HNm.out (KB.out _ _ HB4.out)) hk3⟩
              case measure => simp [intOf]
            · clear hy HRR hix
              gi_wp2
              refine bodyPost_ret (results_none rfl _ _ _) rfl ?_
              refine ⟨⟨_, rfl⟩, .inr ⟨_, ?_, hJx3⟩⟩
              refine List.IsPrefix.trans ?_ HS.out
              rw [HX.out]
              simp [rtsX, HXS.out]
          · have HB4 := Lib.hid (show Below wr.heap.size wr (wr.alloc (.cells a3.cs 44)) from (Below.refl _ _).alloc (Nat.le_refl _) _)
            obtain ⟨fn, tmps, assign, body, hy, hR⟩ := HY.out (rts (tl.take k) ++ [a1, a2]) a3 (wr.alloc (.cells a3.cs 44)) (abides HJ.out (by simpa using HJm.out) HB4.out) (HL.out 2 hlt (by rw [HXX.out]; exact HX4.out) (by omega) _ rfl)
            have HRR := Lib.hid hR
            have hix := idx2 a1 a2 a3 a4
            clear hR
            gi_wp2
            refine HRR.out.mono ?_
            rintro e W3 (⟨rfl, hJ3, hk3⟩ | ⟨rfl, hJx3⟩)
            · clear hy HRR hix
              gi_wp2
              go_roundw
              case rel => exact ⟨3, by omega, by simp, by simpa using hJ3, KT.out _ _ _ (KT.out _ _ _ HNm.out (KB.out _ _ HB4.out)) hk3⟩
              case measure => simp [intOf]
            · clear hy HRR hix
              gi_wp2
              refine bodyPost_ret (results_none rfl _ _ _) rfl ?_
              refine ⟨⟨_, rfl⟩, .inr ⟨_, ?_, hJx3⟩⟩
              refine List.IsPrefix.trans ?_ HS.out
              rw [HX.out]
              simp [rtsX, HXS.out]
          · have HB4 := Lib.hid (show Below wr.heap.size wr (wr.alloc (.cells a4.cs 44)) from (Below.refl _ _).alloc (Nat.le_refl _) _)
            obtain ⟨fn, tmps, assign, body, hy, hR⟩ := HY.out (rts (tl.take k) ++ [a1, a2, a3]) a4 (wr.alloc (.cells a4.cs 44)) (abides HJ.out (by simpa using HJm.out) HB4.out) (HL.out 3 hlt (by rw [HXX.out]; exact HX4.out) (by omega) _ rfl)
            have HRR := Lib.hid hR
            have hix := idx3 a1 a2 a3 a4
            clear hR
            gi_wp2
            refine HRR.out.mono ?_
            rintro e W3 (⟨rfl, hJ3, hk3⟩ | ⟨rfl, hJx3⟩)
            · clear hy HRR hix
              gi_wp2
              go_roundw
              case rel => exact ⟨4, by omega, by simp, by simpa using hJ3, KT.out _ _ _ (KT.out _ _ _ HNm.out (KB.out _ _ HB4.out)) hk3⟩
              case measure => simp [intOf]
            · clear hy HRR hix
              gi_wp2
              refine bodyPost_ret (results_none rfl _ _ _) rfl ?_
              refine ⟨⟨_, rfl⟩, .inr ⟨_, ?_, hJx3⟩⟩
              refine List.IsPrefix.trans ?_ HS.out
              rw [HX.out]
              simp [rtsX, HXS.out]
          · gi_wp2
            go_roundw
            case rel =>
              refine ⟨k + 1, by omega, by simp, ?_, HNm.out⟩
              rw [HX.out]
              have := HJm.out
              simpa [rtsX, HXS.out] using this
            case measure => simp [intOf]; omega
      · have HC := Lib.hid (slotsOf_no x ss qs (wr.alloc (.cells (x.cs ss qs) 37)) HR.out.len h4)
        have HX4 := Lib.hid h4
        clear h4
        gi_wp2_with fail
        refine ⟨trivial, ?_⟩
        refine (callsIn_wide.2 HC.out).mono ?_
        rintro e y1 ⟨rfl, hb⟩
        have HB2 := Lib.hid (goB HB1.out hb)
        clear hb d0 d1 d2 d3 d4 d5 d6 d7 HC
        gi_wp2_with (first
          | refine wpListIn_store_rowTo rfl 89 (.tmp 5) (.tmp 18) rfl rfl y1.heap.size zr20 rfl rfl 89 zr20 (Box.fresh y1 89 zr20) infoS rfl (one20 ⟨0, 0, false, false, false⟩ ⟨0, 0, false, false, false⟩ ⟨0, 0, false, false, false⟩ ⟨0, 0, false, false, false⟩) ?_)
        have hB3 : Below wr.heap.size wr ((y1.alloc (.cells zr20 89)).setRow y1.heap.size zr20) := (HB2.out.alloc HB2.out.size _).trans (setRow_below HB2.out.size _)
        go_roundw
        case rel =>
          refine ⟨k + 1, by omega, by simp, ?_, KT.out _ _ _ HN.out (KB.out _ _ hB3)⟩
          rw [HX.out]
          simpa [rtsX, HX4.out] using abides HJ.out HJs.out hB3
        case measure => simp [intOf]; omega
    · have hlt' : ¬ (k : Int) < (tl.length : Int) := by omega
      have HE := Lib.hid (show k = tl.length by omega)
      gi_wp2
      go_end0
      refine ⟨⟨_, rfl⟩, .inl ?_⟩
      have := HJs.out
      rw [HE.out] at this
      simpa using this

theorem iter_stopsB (n : Nat) (hn : 1 ≤ n) (Bs b o c bt : Nat) (tl : List T8) (hz : tl.length ≤ 1048576) (w0 : World) (T : TypeId) (t : ByteArray) (hBt : Box w0 bt T #[.string t])
    (hc : w0.cell? ⟨Bs, 0, none⟩ = some (.slice (some ⟨b, o, none⟩) tl.length c)) (hT : Tb w0 b o tl) :
    SeqStopsK Fence.wide n Tryd.prog 100 #[.pointer (some ⟨Bs, 0, none⟩)] (fun x : R5 => #[rgt x.t x.v x.r x.w x.k]) (KpB w0.heap.size bt) (fun ys => ys = rts tl) (fun pre => pre <+: rts tl) (rts tl).length w0 :=
  fun l J Jx W hW hJ _ hY h0 => iter_inK (KpB w0.heap.size bt) (KpB.refl _ _) (fun _ _ _ => KpB.trans) (fun _ _ => KpB.below) n hn l Bs b o c tl hz W J Jx hJ hY (stayCell hc hW) (fun W' h => hT.keepB ((KpB.below hW).trans h) (Nat.le_refl _) hBt) h0
end Go.Proofs.YtpahahonopiblaaDoor

namespace Go.Proofs.YtpahahonopiblaaDoor
open Go.RowKit Go.Shelf
set_option linter.unusedVariables false
set_option maxRecDepth 100000
attribute [local go_sem] Oper.semAt_some

theorem Kn.lt1 {w y : World} {T : TypeId} {vs : Array Value} (h : Kn w [(w.heap.size, T, vs)] y) : w.heap.size < y.heap.size := (h.box (b := w.heap.size) (T := T) (vs := vs) (by simp)).lt
theorem kfName {w : World} (h : KF w) {k : Nat} (h1 : 1 ≤ k) (h5 : k ≤ 5) : w.cell? ⟨0, k * 11, none⟩ = some (.string (B (nameL (k : Int)))) := by
  have := h k (by omega) 0 _ rfl
  rw [Nat.add_zero] at this
  rw [this]
  rcases (by omega : k = 1 ∨ k = 2 ∨ k = 3 ∨ k = 4 ∨ k = 5) with rfl | rfl | rfl | rfl | rfl <;> rfl
theorem own_str (b : Nat) (T : TypeId) (f : List R5 → Array Value) : Own (fun pre W => Box W b T (f pre)) := fun pre W W' row hs hg hr => box_own (β := Unit) b T (f pre) () W W' row hs hg hr
theorem txtR_len (r : R5) : (txtR r.t r.v r.r r.w r.k).size ≤ 6 := by rw [txtR_B, B_size]; exact rgtL_len r
theorem rts_ok {x : T8} (h : okT x = true) : rts [x] = x.slots := by
  have h3 : okT3 x = true := by simp only [okT, Bool.and_eq_true] at h; exact h.2.2.2.2.1
  unfold okT3 at h3
  simp only [rts, List.flatMap_cons, List.flatMap_nil, List.append_nil, rtsX]
  split at h3
  · rw [if_pos (by have : (x.slots.length : Int) = 4 := by simpa using h3
                   omega)]
  · have : x.slots.length = 0 := by have : (x.slots.length : Int) = 0 := by simpa using h3
                                    omega
    rw [if_neg (by omega)]
    exact (List.length_eq_zero_iff.1 this).symm
theorem upd_mono {L : Nat → Bool} {i k : Nat} (h : L k = true) : upd L i k = true := by unfold upd; split; rfl; exact h
def TP1W (w : World) (x : T8) (s q : Sl) (kd : Nat) (S1 S2 S3 S4 : ByteArray) (y : World) : Prop := Kn w [(w.heap.size, 37, x.cs s q)] y
def TP1 (w : World) (x : T8) (s q : Sl) (kd : Nat) (S1 S2 S3 S4 : ByteArray) (L : Nat → Bool) (A : Act) (y : World) : Prop := ∃ v3 v7 v8 v9 v10 v11 v12 v13 v14 v15 v16 v17 v18 v19 v20 v21 v22 v23 v24 v25 v26 : Value, A = { tmps := #[x.val s q, .pointer (some ⟨w.heap.size, 0, none⟩), .string ⟨#[]⟩, v3, undef, undef, undef, v7, v8, v9, v10, v11, v12, v13, v14, v15, v16, v17, v18, v19, v20, v21, v22, v23, v24, v25, v26, undef, undef, undef, undef, undef, undef, undef, undef, undef, undef, undef, undef, undef, undef, undef, undef, undef, undef, undef, undef, undef, undef, undef, undef, undef, undef, undef, undef, undef, undef, undef, undef], defers := [] } ∧ TP1W w x s q kd S1 S2 S3 S4 y ∧ (L 0 = true → v7 = .pointer (some ⟨w.heap.size, 0, none⟩)) ∧ (L 1 = true → v8 = .int .i64 (kd : Int)) ∧ (L 2 = true → v9 = .pointer (some ⟨0, kd * 11, none⟩)) ∧ (L 3 = true → v10 = .pointer (some ⟨0, kd * 11, none⟩)) ∧ (L 4 = true → v11 = .string (S1)) ∧ (L 5 = true → v12 = .string (S1 ++ ⟨#[32]⟩)) ∧ (L 6 = true → v13 = .pointer (some ⟨w.heap.size, 1, none⟩)) ∧ (L 7 = true → v14 = lab x.sec x.vou) ∧ (L 8 = true → v15 = .string S2) ∧ (L 9 = true → v16 = .string (S1 ++ ⟨#[32]⟩ ++ S2)) ∧ (L 10 = true → v17 = .string (S1 ++ ⟨#[32]⟩ ++ S2 ++ ⟨#[32]⟩)) ∧ (L 11 = true → v18 = .pointer (some ⟨w.heap.size, 3, none⟩)) ∧ (L 12 = true → v19 = .int .i64 x.vers) ∧ (L 13 = true → v20 = .string S3) ∧ (L 14 = true → v21 = .string (S1 ++ ⟨#[32]⟩ ++ S2 ++ ⟨#[32]⟩ ++ S3)) ∧ (L 15 = true → v22 = .string (S1 ++ ⟨#[32]⟩ ++ S2 ++ ⟨#[32]⟩ ++ S3 ++ ⟨#[32]⟩)) ∧ (L 16 = true → v23 = .pointer (some ⟨w.heap.size, 4, none⟩)) ∧ (L 17 = true → v24 = .int .i64 x.num) ∧ (L 18 = true → v25 = .string S4) ∧ (L 19 = true → v26 = .string (S1 ++ ⟨#[32]⟩ ++ S2 ++ ⟨#[32]⟩ ++ S3 ++ ⟨#[32]⟩ ++ S4)) ∧ (L 20 = true → ∃ b, v3 = .pointer (some ⟨b, 0, none⟩) ∧ w.heap.size < b ∧ ∃ c, Box y b 9 #[c]) ∧ (L 21 = true → (L 20 = true ∧ ∃ b, v3 = .pointer (some ⟨b, 0, none⟩) ∧ w.heap.size < b ∧ Box y b 9 #[.string (S1 ++ ⟨#[32]⟩ ++ S2 ++ ⟨#[32]⟩ ++ S3 ++ ⟨#[32]⟩ ++ S4)]))
def TP8W (w X wr : World) (x : T8) (s q : Sl) (b D : Nat) (pr tr : ByteArray) (v7 v8 v9 v10 v11 v12 v13 v14 v15 v16 v17 v18 v19 v20 v21 v22 v23 v24 v25 v26 : Value) (g o k : Nat) (r : Int) (L : Nat → Bool) (y : World) : Prop := L 5 = false → Below wr.heap.size wr y
def TP8 (w X wr : World) (x : T8) (s q : Sl) (b D : Nat) (pr tr : ByteArray) (v7 v8 v9 v10 v11 v12 v13 v14 v15 v16 v17 v18 v19 v20 v21 v22 v23 v24 v25 v26 : Value) (g o k : Nat) (r : Int) (L : Nat → Bool) (A : Act) (y : World) : Prop := ∃ v43 v44 v45 v46 v47 v48 : Value, A = { tmps := #[x.val s q, .pointer (some ⟨w.heap.size, 0, none⟩), .string ⟨#[]⟩, .pointer (some ⟨b, 0, none⟩), undef, undef, .int .i64 r, v7, v8, v9, v10, v11, v12, v13, v14, v15, v16, v17, v18, v19, v20, v21, v22, v23, v24, v25, v26, x.val s q, .slice (some ⟨X.heap.size, 0, none⟩) 1 1, .func (.func 100) #[] #[.pointer (some ⟨X.heap.size + 1, 0, none⟩)], undef, undef, undef, undef, undef, undef, .pointer (some ⟨w.heap.size, 6, none⟩), .slice q.a x.queue.length q.c, .int .i64 (x.queue.length : Int), .int .i64 (k : Int), .bool true, .pointer (some ⟨g, o + k, none⟩), .int .i64 r, v43, v44, v45, v46, v47, v48, undef, undef, undef, undef, undef, undef, undef, undef, undef, undef], defers := [{ target := .collected D, args := #[] }] } ∧ TP8W w X wr x s q b D pr tr v7 v8 v9 v10 v11 v12 v13 v14 v15 v16 v17 v18 v19 v20 v21 v22 v23 v24 v25 v26 g o k r L y ∧ (L 0 = true → v43 = .string pr) ∧ (L 1 = true → v44 = .int .i64 r) ∧ (L 2 = true → v45 = .string tr) ∧ (L 3 = true → v46 = .string (⟨#[32, 60]⟩ ++ tr)) ∧ (L 4 = true → v47 = .string (pr ++ (⟨#[32, 60]⟩ ++ tr))) ∧ (L 5 = true → (L 0 = true ∧ L 2 = true ∧ ∃ z, Below wr.heap.size wr z ∧ y = z.setCell ⟨b, 0, none⟩ (.string (pr ++ (⟨#[32, 60]⟩ ++ tr)))))
def TP11W (w X wr : World) (x : T8) (s q : Sl) (b D : Nat) (pr tr : ByteArray) (v7 v8 v9 v10 v11 v12 v13 v14 v15 v16 v17 v18 v19 v20 v21 v22 v23 v24 v25 v26 : Value)  (L : Nat → Bool) (y : World) : Prop := L 6 = false → Below wr.heap.size wr y
def TP11 (w X wr : World) (x : T8) (s q : Sl) (b D : Nat) (pr tr : ByteArray) (v7 v8 v9 v10 v11 v12 v13 v14 v15 v16 v17 v18 v19 v20 v21 v22 v23 v24 v25 v26 : Value)  (L : Nat → Bool) (A : Act) (y : World) : Prop := ∃ v6 v7 v8 v9 v10 v11 v12 v13 v14 v15 v16 v17 v18 v19 v20 v21 v22 v23 v24 v25 v26 v27 v28 v29 v36 v37 v38 v39 v40 v41 v42 v43 v44 v45 v46 v47 v48 v49 v50 v51 v52 v53 v54 v55 v56 v57 : Value, A = { tmps := #[x.val s q, .pointer (some ⟨w.heap.size, 0, none⟩), .string ⟨#[]⟩, .pointer (some ⟨b, 0, none⟩), undef, undef, v6, v7, v8, v9, v10, v11, v12, v13, v14, v15, v16, v17, v18, v19, v20, v21, v22, v23, v24, v25, v26, v27, v28, v29, undef, undef, undef, undef, undef, undef, v36, v37, v38, v39, v40, v41, v42, v43, v44, v45, v46, v47, v48, v49, v50, v51, v52, v53, v54, v55, v56, v57, undef], defers := [{ target := .collected D, args := #[] }] } ∧ TP11W w X wr x s q b D pr tr v7 v8 v9 v10 v11 v12 v13 v14 v15 v16 v17 v18 v19 v20 v21 v22 v23 v24 v25 v26  L y ∧ (L 0 = true → v52 = .string pr) ∧ (L 1 = true → v53 = .pointer (some ⟨w.heap.size, 7, none⟩)) ∧ (L 2 = true → v54 = .int .i64 x.to) ∧ (L 3 = true → v55 = .string tr) ∧ (L 4 = true → v56 = .string (⟨#[32, 62]⟩ ++ tr)) ∧ (L 5 = true → v57 = .string (pr ++ (⟨#[32, 62]⟩ ++ tr))) ∧ (L 6 = true → (L 0 = true ∧ L 2 = true ∧ L 3 = true ∧ ∃ z, Below wr.heap.size wr z ∧ y = z.setCell ⟨b, 0, none⟩ (.string (pr ++ (⟨#[32, 62]⟩ ++ tr)))))

set_option maxHeartbeats 8000000 in
theorem thingText_any (x : T8) (s q : Sl) (w : World) (hx : okT x = true) (hR : HasR w s x.slots) (hQ : HasQ w q x.queue) (hf : KF w) (htp : TP w) :
    Calls Tryd.prog 49 #[x.val s q] w fun e w' => ∃ t, e = .returned (.string (B t)) ∧ t ++ [10] = thingL x ∧ Below w.heap.size w w' := by
  refine (callsIn_wide (n := 9)).1 ?_
  obtain ⟨k1, k2, k3, k4, k5⟩ := okT_ranges hx
  have OL := Lib.hid (x_okT_lab hx)
  have OV := Lib.hid (show -9 ≤ x.vers ∧ x.vers ≤ 99 by omega)
  have ON := Lib.hid (show -9 ≤ x.num ∧ x.num ≤ 99 by omega)
  obtain ⟨kd, hkd, hk1, hk5⟩ : ∃ kd : Nat, x.kind = kd ∧ 1 ≤ kd ∧ kd ≤ 5 := ⟨x.kind.toNat, by rw [inR_iff] at k1; omega⟩
  obtain ⟨Y, hY⟩ : ∃ Y, w.alloc (.cells (x.cs s q) 37) = Y := ⟨_, rfl⟩
  have K0 := (Kn.refl (w := w)).new 37 (x.cs s q)
  rw [hY] at K0
  have hkd' : (kd : Int) < 6 := by omega
  have wk : IntKind.i64.wrap (kd : Int) = (kd : Int) := IntWalk.i64_in _ (by omega)
  obtain ⟨S1, hS1⟩ : ∃ S1, B (nameL (kd : Int)) = S1 := ⟨_, rfl⟩
  obtain ⟨S2, hS2⟩ : ∃ S2, txt x.sec x.vou = S2 := ⟨_, rfl⟩
  obtain ⟨S3, hS3⟩ : ∃ S3, B (decL x.vers) = S3 := ⟨_, rfl⟩
  obtain ⟨S4, hS4⟩ : ∃ S4, B (decL x.num) = S4 := ⟨_, rfl⟩
  have z1 : S1.size ≤ 4 := hS1 ▸ name_len _
  have z2 : S2.size ≤ 5 := hS2 ▸ txt_B OL.out ▸ lab_len _ _
  have z3 : S3.size ≤ 2 := hS3 ▸ dec_len _
  have z4 : S4.size ≤ 2 := hS4 ▸ dec_len _
  have y1 : ¬ 9223372036854775807 < S1.size + 1 := by omega
  have y2 : ¬ 9223372036854775807 < S1.size + 1 + S2.size := by omega
  have y3 : ¬ 9223372036854775807 < S1.size + 1 + S2.size + 1 := by omega
  have y4 : ¬ 9223372036854775807 < S1.size + 1 + S2.size + 1 + S3.size := by omega
  have y5 : ¬ 9223372036854775807 < S1.size + 1 + S2.size + 1 + S3.size + 1 := by omega
  have y6 : ¬ 9223372036854775807 < S1.size + 1 + S2.size + 1 + S3.size + 1 + S4.size := by omega
  have HE := Lib.hid (show S1 ++ ⟨#[32]⟩ ++ S2 ++ ⟨#[32]⟩ ++ S3 ++ ⟨#[32]⟩ ++ S4 = B (headL x) by
    rw [← hS1, ← hS2, ← hS3, ← hS4, txt_B OL.out, show (⟨#[32]⟩ : ByteArray) = B [32] from rfl]
    simp only [B_app, headL, hkd, List.append_assoc, List.cons_append, List.nil_append])
  have HKN := Lib.hid (show ∀ y, Below w.heap.size w y → y.cell? ⟨0, kd * 11, none⟩ = some (.string S1) from fun y h => hS1 ▸ kfName (hf.stay h) hk1 hk5)
  have G1 := Lib.hid (show ∀ y, Calls Tryd.prog 90 #[lab x.sec x.vou] y fun e w' => e = .returned (.string S2) ∧ Below y.heap.size y w' from fun y => hS2 ▸ implText_any x.sec x.vou y)
  have G2 := Lib.hid (show ∀ y, Below w.heap.size w y → Calls Tryd.prog 48 #[.int .i64 x.vers] y fun e w' => e = .returned (.string S3) ∧ Below y.heap.size y w' from fun y h => itoa_val hS3 y (htp.stay h) OV.out)
  have G3 := Lib.hid (show ∀ y, Below w.heap.size w y → Calls Tryd.prog 48 #[.int .i64 x.num] y fun e w' => e = .returned (.string S4) ∧ Below y.heap.size y w' from fun y h => itoa_val hS4 y (htp.stay h) ON.out)
  have HR := Lib.hid hR
  have HQ := Lib.hid hQ
  have HX := Lib.hid hx
  have HK0 := Lib.hid K0
  have HTP := Lib.hid htp
  clear K0 hS1 hS2 hS3 hS4 z1 z2 z3 z4 k1 k2 k3 k4 k5 OV ON hk1 hk5 hR hQ hx hf htp
  refine callsIn_of_wp_marks Tryd.func49 rfl trivial ?_ rfl
  simp only [Tryd.ntmps49, List.size_toArray, List.length_cons, List.length_nil, Nat.reduceAdd, Nat.reduceSub, Array.replicate_succ, Array.replicate_zero, List.push_toArray, List.append_toArray, List.nil_append, List.cons_append]
  gi_wp2_with fail
  refine wpIn_region_steps (by kernel_rfl) (by kernel_rfl) (by kernel_rfl) (TP1 w x s q kd S1 S2 S3 S4) ?_ ⟨?_, ?_, ?_, ?_, ?_, ?_, ?_, ?_, ?_, ?_, ?_, ?_, ?_, ?_, ?_, ?_, ?_, ?_, ?_, ?_, ?_, ?_, trivial⟩ ?_
  · exact ⟨_, _, _, _, _, _, _, _, _, _, _, _, _, _, _, _, _, _, _, _, _, rfl, Kn.drew HK0.out, fun h => absurd h (by decide), fun h => absurd h (by decide), fun h => absurd h (by decide), fun h => absurd h (by decide), fun h => absurd h (by decide), fun h => absurd h (by decide), fun h => absurd h (by decide), fun h => absurd h (by decide), fun h => absurd h (by decide), fun h => absurd h (by decide), fun h => absurd h (by decide), fun h => absurd h (by decide), fun h => absurd h (by decide), fun h => absurd h (by decide), fun h => absurd h (by decide), fun h => absurd h (by decide), fun h => absurd h (by decide), fun h => absurd h (by decide), fun h => absurd h (by decide), fun h => absurd h (by decide), fun h => absurd h (by decide), fun h => absurd h (by decide)⟩
  · rintro L A X ⟨v3, v7, v8, v9, v10, v11, v12, v13, v14, v15, v16, v17, v18, v19, v20, v21, v22, v23, v24, v25, v26, rfl, hw, f0, f1, f2, f3, f4, f5, f6, f7, f8, f9, f10, f11, f12, f13, f14, f15, f16, f17, f18, f19, f20, f21⟩ hL hdep K hK
    clear hdep
    have F0 := Lib.hid f0
    have F1 := Lib.hid f1
    have F2 := Lib.hid f2
    have F3 := Lib.hid f3
    have F4 := Lib.hid f4
    have F5 := Lib.hid f5
    have F6 := Lib.hid f6
    have F7 := Lib.hid f7
    have F8 := Lib.hid f8
    have F9 := Lib.hid f9
    have F10 := Lib.hid f10
    have F11 := Lib.hid f11
    have F12 := Lib.hid f12
    have F13 := Lib.hid f13
    have F14 := Lib.hid f14
    have F15 := Lib.hid f15
    have F16 := Lib.hid f16
    have F17 := Lib.hid f17
    have F18 := Lib.hid f18
    have F19 := Lib.hid f19
    have F20 := Lib.hid f20
    have F21 := Lib.hid f21
    have HW := Lib.hid hw
    clear hw f0 f1 f2 f3 f4 f5 f6 f7 f8 f9 f10 f11 f12 f13 f14 f15 f16 f17 f18 f19 f20 f21
    go_simp
    refine hK.out _ _ ?_
    exact ⟨_, _, _, _, _, _, _, _, _, _, _, _, _, _, _, _, _, _, _, _, _, rfl, HW.out, fun _ => rfl, fun hk => (F1.out ((upd_ne (by decide)).symm.trans hk)), fun hk => (F2.out ((upd_ne (by decide)).symm.trans hk)), fun hk => (F3.out ((upd_ne (by decide)).symm.trans hk)), fun hk => (F4.out ((upd_ne (by decide)).symm.trans hk)), fun hk => (F5.out ((upd_ne (by decide)).symm.trans hk)), fun hk => (F6.out ((upd_ne (by decide)).symm.trans hk)), fun hk => (F7.out ((upd_ne (by decide)).symm.trans hk)), fun hk => (F8.out ((upd_ne (by decide)).symm.trans hk)), fun hk => (F9.out ((upd_ne (by decide)).symm.trans hk)), fun hk => (F10.out ((upd_ne (by decide)).symm.trans hk)), fun hk => (F11.out ((upd_ne (by decide)).symm.trans hk)), fun hk => (F12.out ((upd_ne (by decide)).symm.trans hk)), fun hk => (F13.out ((upd_ne (by decide)).symm.trans hk)), fun hk => (F14.out ((upd_ne (by decide)).symm.trans hk)), fun hk => (F15.out ((upd_ne (by decide)).symm.trans hk)), fun hk => (F16.out ((upd_ne (by decide)).symm.trans hk)), fun hk => (F17.out ((upd_ne (by decide)).symm.trans hk)), fun hk => (F18.out ((upd_ne (by decide)).symm.trans hk)), fun hk => (F19.out ((upd_ne (by decide)).symm.trans hk)), fun hk => (F20.out ((upd_ne (by decide)).symm.trans hk)), fun hk => (let ⟨h20, b, e, hl, hB⟩ := (F21.out ((upd_ne (by decide)).symm.trans hk)); ⟨(upd_ne (by decide)).trans h20, b, e, hl, hB⟩)⟩
  · rintro L A X ⟨v3, v7, v8, v9, v10, v11, v12, v13, v14, v15, v16, v17, v18, v19, v20, v21, v22, v23, v24, v25, v26, rfl, hw, f0, f1, f2, f3, f4, f5, f6, f7, f8, f9, f10, f11, f12, f13, f14, f15, f16, f17, f18, f19, f20, f21⟩ hL hdep K hK
    simp at hdep
    have d0 : L 0 = true := by first | exact hdep | exact hdep.1 | exact hdep.2 | exact hdep.2.1 | exact hdep.2.2 | exact hdep.2.2.1 | exact hdep.2.2.2
    have e0 := (f0 d0); subst e0
    clear hdep
    have c : X.cell? ⟨w.heap.size, 0, none⟩ = some (.int .i64 (kd : Int)) := by rw [← hkd]; exact Kn.c hw (b := w.heap.size) (T := 37) (vs := x.cs s q) (by simp) 0 _ rfl
    have F0 := Lib.hid f0
    have F1 := Lib.hid f1
    have F2 := Lib.hid f2
    have F3 := Lib.hid f3
    have F4 := Lib.hid f4
    have F5 := Lib.hid f5
    have F6 := Lib.hid f6
    have F7 := Lib.hid f7
    have F8 := Lib.hid f8
    have F9 := Lib.hid f9
    have F10 := Lib.hid f10
    have F11 := Lib.hid f11
    have F12 := Lib.hid f12
    have F13 := Lib.hid f13
    have F14 := Lib.hid f14
    have F15 := Lib.hid f15
    have F16 := Lib.hid f16
    have F17 := Lib.hid f17
    have F18 := Lib.hid f18
    have F19 := Lib.hid f19
    have F20 := Lib.hid f20
    have F21 := Lib.hid f21
    have HW := Lib.hid hw
    clear hw f0 f1 f2 f3 f4 f5 f6 f7 f8 f9 f10 f11 f12 f13 f14 f15 f16 f17 f18 f19 f20 f21
    go_simp
    refine hK.out _ _ ?_
    exact ⟨_, _, _, _, _, _, _, _, _, _, _, _, _, _, _, _, _, _, _, _, _, rfl, HW.out, fun _ => rfl, fun _ => rfl, fun hk => (F2.out ((upd_ne (by decide)).symm.trans hk)), fun hk => (F3.out ((upd_ne (by decide)).symm.trans hk)), fun hk => (F4.out ((upd_ne (by decide)).symm.trans hk)), fun hk => (F5.out ((upd_ne (by decide)).symm.trans hk)), fun hk => (F6.out ((upd_ne (by decide)).symm.trans hk)), fun hk => (F7.out ((upd_ne (by decide)).symm.trans hk)), fun hk => (F8.out ((upd_ne (by decide)).symm.trans hk)), fun hk => (F9.out ((upd_ne (by decide)).symm.trans hk)), fun hk => (F10.out ((upd_ne (by decide)).symm.trans hk)), fun hk => (F11.out ((upd_ne (by decide)).symm.trans hk)), fun hk => (F12.out ((upd_ne (by decide)).symm.trans hk)), fun hk => (F13.out ((upd_ne (by decide)).symm.trans hk)), fun hk => (F14.out ((upd_ne (by decide)).symm.trans hk)), fun hk => (F15.out ((upd_ne (by decide)).symm.trans hk)), fun hk => (F16.out ((upd_ne (by decide)).symm.trans hk)), fun hk => (F17.out ((upd_ne (by decide)).symm.trans hk)), fun hk => (F18.out ((upd_ne (by decide)).symm.trans hk)), fun hk => (F19.out ((upd_ne (by decide)).symm.trans hk)), fun hk => (F20.out ((upd_ne (by decide)).symm.trans hk)), fun hk => (let ⟨h20, b, e, hl, hB⟩ := (F21.out ((upd_ne (by decide)).symm.trans hk)); ⟨(upd_ne (by decide)).trans h20, b, e, hl, hB⟩)⟩
  · rintro L A X ⟨v3, v7, v8, v9, v10, v11, v12, v13, v14, v15, v16, v17, v18, v19, v20, v21, v22, v23, v24, v25, v26, rfl, hw, f0, f1, f2, f3, f4, f5, f6, f7, f8, f9, f10, f11, f12, f13, f14, f15, f16, f17, f18, f19, f20, f21⟩ hL hdep K hK
    simp at hdep
    have d1 : L 1 = true := by first | exact hdep | exact hdep.1 | exact hdep.2 | exact hdep.2.1 | exact hdep.2.2 | exact hdep.2.2.1 | exact hdep.2.2.2
    have e1 := (f1 d1); subst e1
    clear hdep
    have F0 := Lib.hid f0
    have F1 := Lib.hid f1
    have F2 := Lib.hid f2
    have F3 := Lib.hid f3
    have F4 := Lib.hid f4
    have F5 := Lib.hid f5
    have F6 := Lib.hid f6
    have F7 := Lib.hid f7
    have F8 := Lib.hid f8
    have F9 := Lib.hid f9
    have F10 := Lib.hid f10
    have F11 := Lib.hid f11
    have F12 := Lib.hid f12
    have F13 := Lib.hid f13
    have F14 := Lib.hid f14
    have F15 := Lib.hid f15
    have F16 := Lib.hid f16
    have F17 := Lib.hid f17
    have F18 := Lib.hid f18
    have F19 := Lib.hid f19
    have F20 := Lib.hid f20
    have F21 := Lib.hid f21
    have HW := Lib.hid hw
    clear hw f0 f1 f2 f3 f4 f5 f6 f7 f8 f9 f10 f11 f12 f13 f14 f15 f16 f17 f18 f19 f20 f21
    go_simp
    refine hK.out _ _ ?_
    exact ⟨_, _, _, _, _, _, _, _, _, _, _, _, _, _, _, _, _, _, _, _, _, rfl, HW.out, fun hk => (F0.out ((upd_ne (by decide)).symm.trans hk)), fun _ => rfl, fun _ => rfl, fun hk => (F3.out ((upd_ne (by decide)).symm.trans hk)), fun hk => (F4.out ((upd_ne (by decide)).symm.trans hk)), fun hk => (F5.out ((upd_ne (by decide)).symm.trans hk)), fun hk => (F6.out ((upd_ne (by decide)).symm.trans hk)), fun hk => (F7.out ((upd_ne (by decide)).symm.trans hk)), fun hk => (F8.out ((upd_ne (by decide)).symm.trans hk)), fun hk => (F9.out ((upd_ne (by decide)).symm.trans hk)), fun hk => (F10.out ((upd_ne (by decide)).symm.trans hk)), fun hk => (F11.out ((upd_ne (by decide)).symm.trans hk)), fun hk => (F12.out ((upd_ne (by decide)).symm.trans hk)), fun hk => (F13.out ((upd_ne (by decide)).symm.trans hk)), fun hk => (F14.out ((upd_ne (by decide)).symm.trans hk)), fun hk => (F15.out ((upd_ne (by decide)).symm.trans hk)), fun hk => (F16.out ((upd_ne (by decide)).symm.trans hk)), fun hk => (F17.out ((upd_ne (by decide)).symm.trans hk)), fun hk => (F18.out ((upd_ne (by decide)).symm.trans hk)), fun hk => (F19.out ((upd_ne (by decide)).symm.trans hk)), fun hk => (F20.out ((upd_ne (by decide)).symm.trans hk)), fun hk => (let ⟨h20, b, e, hl, hB⟩ := (F21.out ((upd_ne (by decide)).symm.trans hk)); ⟨(upd_ne (by decide)).trans h20, b, e, hl, hB⟩)⟩
  · rintro L A X ⟨v3, v7, v8, v9, v10, v11, v12, v13, v14, v15, v16, v17, v18, v19, v20, v21, v22, v23, v24, v25, v26, rfl, hw, f0, f1, f2, f3, f4, f5, f6, f7, f8, f9, f10, f11, f12, f13, f14, f15, f16, f17, f18, f19, f20, f21⟩ hL hdep K hK
    simp at hdep
    have d2 : L 2 = true := by first | exact hdep | exact hdep.1 | exact hdep.2 | exact hdep.2.1 | exact hdep.2.2 | exact hdep.2.2.1 | exact hdep.2.2.2
    have e2 := (f2 d2); subst e2
    clear hdep
    have F0 := Lib.hid f0
    have F1 := Lib.hid f1
    have F2 := Lib.hid f2
    have F3 := Lib.hid f3
    have F4 := Lib.hid f4
    have F5 := Lib.hid f5
    have F6 := Lib.hid f6
    have F7 := Lib.hid f7
    have F8 := Lib.hid f8
    have F9 := Lib.hid f9
    have F10 := Lib.hid f10
    have F11 := Lib.hid f11
    have F12 := Lib.hid f12
    have F13 := Lib.hid f13
    have F14 := Lib.hid f14
    have F15 := Lib.hid f15
    have F16 := Lib.hid f16
    have F17 := Lib.hid f17
    have F18 := Lib.hid f18
    have F19 := Lib.hid f19
    have F20 := Lib.hid f20
    have F21 := Lib.hid f21
    have HW := Lib.hid hw
    clear hw f0 f1 f2 f3 f4 f5 f6 f7 f8 f9 f10 f11 f12 f13 f14 f15 f16 f17 f18 f19 f20 f21
    go_simp
    refine hK.out _ _ ?_
    exact ⟨_, _, _, _, _, _, _, _, _, _, _, _, _, _, _, _, _, _, _, _, _, rfl, HW.out, fun hk => (F0.out ((upd_ne (by decide)).symm.trans hk)), fun hk => (F1.out ((upd_ne (by decide)).symm.trans hk)), fun _ => rfl, fun _ => rfl, fun hk => (F4.out ((upd_ne (by decide)).symm.trans hk)), fun hk => (F5.out ((upd_ne (by decide)).symm.trans hk)), fun hk => (F6.out ((upd_ne (by decide)).symm.trans hk)), fun hk => (F7.out ((upd_ne (by decide)).symm.trans hk)), fun hk => (F8.out ((upd_ne (by decide)).symm.trans hk)), fun hk => (F9.out ((upd_ne (by decide)).symm.trans hk)), fun hk => (F10.out ((upd_ne (by decide)).symm.trans hk)), fun hk => (F11.out ((upd_ne (by decide)).symm.trans hk)), fun hk => (F12.out ((upd_ne (by decide)).symm.trans hk)), fun hk => (F13.out ((upd_ne (by decide)).symm.trans hk)), fun hk => (F14.out ((upd_ne (by decide)).symm.trans hk)), fun hk => (F15.out ((upd_ne (by decide)).symm.trans hk)), fun hk => (F16.out ((upd_ne (by decide)).symm.trans hk)), fun hk => (F17.out ((upd_ne (by decide)).symm.trans hk)), fun hk => (F18.out ((upd_ne (by decide)).symm.trans hk)), fun hk => (F19.out ((upd_ne (by decide)).symm.trans hk)), fun hk => (F20.out ((upd_ne (by decide)).symm.trans hk)), fun hk => (let ⟨h20, b, e, hl, hB⟩ := (F21.out ((upd_ne (by decide)).symm.trans hk)); ⟨(upd_ne (by decide)).trans h20, b, e, hl, hB⟩)⟩
  · rintro L A X ⟨v3, v7, v8, v9, v10, v11, v12, v13, v14, v15, v16, v17, v18, v19, v20, v21, v22, v23, v24, v25, v26, rfl, hw, f0, f1, f2, f3, f4, f5, f6, f7, f8, f9, f10, f11, f12, f13, f14, f15, f16, f17, f18, f19, f20, f21⟩ hL hdep K hK
    simp at hdep
    have d3 : L 3 = true := by first | exact hdep | exact hdep.1 | exact hdep.2 | exact hdep.2.1 | exact hdep.2.2 | exact hdep.2.2.1 | exact hdep.2.2.2
    have e3 := (f3 d3); subst e3
    clear hdep
    have c := HKN.out X hw.1
    have F0 := Lib.hid f0
    have F1 := Lib.hid f1
    have F2 := Lib.hid f2
    have F3 := Lib.hid f3
    have F4 := Lib.hid f4
    have F5 := Lib.hid f5
    have F6 := Lib.hid f6
    have F7 := Lib.hid f7
    have F8 := Lib.hid f8
    have F9 := Lib.hid f9
    have F10 := Lib.hid f10
    have F11 := Lib.hid f11
    have F12 := Lib.hid f12
    have F13 := Lib.hid f13
    have F14 := Lib.hid f14
    have F15 := Lib.hid f15
    have F16 := Lib.hid f16
    have F17 := Lib.hid f17
    have F18 := Lib.hid f18
    have F19 := Lib.hid f19
    have F20 := Lib.hid f20
    have F21 := Lib.hid f21
    have HW := Lib.hid hw
    clear hw f0 f1 f2 f3 f4 f5 f6 f7 f8 f9 f10 f11 f12 f13 f14 f15 f16 f17 f18 f19 f20 f21
    go_simp
    refine hK.out _ _ ?_
    exact ⟨_, _, _, _, _, _, _, _, _, _, _, _, _, _, _, _, _, _, _, _, _, rfl, HW.out, fun hk => (F0.out ((upd_ne (by decide)).symm.trans hk)), fun hk => (F1.out ((upd_ne (by decide)).symm.trans hk)), fun hk => (F2.out ((upd_ne (by decide)).symm.trans hk)), fun _ => rfl, fun _ => rfl, fun hk => (F5.out ((upd_ne (by decide)).symm.trans hk)), fun hk => (F6.out ((upd_ne (by decide)).symm.trans hk)), fun hk => (F7.out ((upd_ne (by decide)).symm.trans hk)), fun hk => (F8.out ((upd_ne (by decide)).symm.trans hk)), fun hk => (F9.out ((upd_ne (by decide)).symm.trans hk)), fun hk => (F10.out ((upd_ne (by decide)).symm.trans hk)), fun hk => (F11.out ((upd_ne (by decide)).symm.trans hk)), fun hk => (F12.out ((upd_ne (by decide)).symm.trans hk)), fun hk => (F13.out ((upd_ne (by decide)).symm.trans hk)), fun hk => (F14.out ((upd_ne (by decide)).symm.trans hk)), fun hk => (F15.out ((upd_ne (by decide)).symm.trans hk)), fun hk => (F16.out ((upd_ne (by decide)).symm.trans hk)), fun hk => (F17.out ((upd_ne (by decide)).symm.trans hk)), fun hk => (F18.out ((upd_ne (by decide)).symm.trans hk)), fun hk => (F19.out ((upd_ne (by decide)).symm.trans hk)), fun hk => (F20.out ((upd_ne (by decide)).symm.trans hk)), fun hk => (let ⟨h20, b, e, hl, hB⟩ := (F21.out ((upd_ne (by decide)).symm.trans hk)); ⟨(upd_ne (by decide)).trans h20, b, e, hl, hB⟩)⟩
  · rintro L A X ⟨v3, v7, v8, v9, v10, v11, v12, v13, v14, v15, v16, v17, v18, v19, v20, v21, v22, v23, v24, v25, v26, rfl, hw, f0, f1, f2, f3, f4, f5, f6, f7, f8, f9, f10, f11, f12, f13, f14, f15, f16, f17, f18, f19, f20, f21⟩ hL hdep K hK
    simp at hdep
    have d4 : L 4 = true := by first | exact hdep | exact hdep.1 | exact hdep.2 | exact hdep.2.1 | exact hdep.2.2 | exact hdep.2.2.1 | exact hdep.2.2.2
    have e4 := (f4 d4); subst e4
    clear hdep
    have F0 := Lib.hid f0
    have F1 := Lib.hid f1
    have F2 := Lib.hid f2
    have F3 := Lib.hid f3
    have F4 := Lib.hid f4
    have F5 := Lib.hid f5
    have F6 := Lib.hid f6
    have F7 := Lib.hid f7
    have F8 := Lib.hid f8
    have F9 := Lib.hid f9
    have F10 := Lib.hid f10
    have F11 := Lib.hid f11
    have F12 := Lib.hid f12
    have F13 := Lib.hid f13
    have F14 := Lib.hid f14
    have F15 := Lib.hid f15
    have F16 := Lib.hid f16
    have F17 := Lib.hid f17
    have F18 := Lib.hid f18
    have F19 := Lib.hid f19
    have F20 := Lib.hid f20
    have F21 := Lib.hid f21
    have HW := Lib.hid hw
    clear hw f0 f1 f2 f3 f4 f5 f6 f7 f8 f9 f10 f11 f12 f13 f14 f15 f16 f17 f18 f19 f20 f21
    go_simp
    refine hK.out _ _ ?_
    exact ⟨_, _, _, _, _, _, _, _, _, _, _, _, _, _, _, _, _, _, _, _, _, rfl, HW.out, fun hk => (F0.out ((upd_ne (by decide)).symm.trans hk)), fun hk => (F1.out ((upd_ne (by decide)).symm.trans hk)), fun hk => (F2.out ((upd_ne (by decide)).symm.trans hk)), fun hk => (F3.out ((upd_ne (by decide)).symm.trans hk)), fun _ => rfl, fun _ => rfl, fun hk => (F6.out ((upd_ne (by decide)).symm.trans hk)), fun hk => (F7.out ((upd_ne (by decide)).symm.trans hk)), fun hk => (F8.out ((upd_ne (by decide)).symm.trans hk)), fun hk => (F9.out ((upd_ne (by decide)).symm.trans hk)), fun hk => (F10.out ((upd_ne (by decide)).symm.trans hk)), fun hk => (F11.out ((upd_ne (by decide)).symm.trans hk)), fun hk => (F12.out ((upd_ne (by decide)).symm.trans hk)), fun hk => (F13.out ((upd_ne (by decide)).symm.trans hk)), fun hk => (F14.out ((upd_ne (by decide)).symm.trans hk)), fun hk => (F15.out ((upd_ne (by decide)).symm.trans hk)), fun hk => (F16.out ((upd_ne (by decide)).symm.trans hk)), fun hk => (F17.out ((upd_ne (by decide)).symm.trans hk)), fun hk => (F18.out ((upd_ne (by decide)).symm.trans hk)), fun hk => (F19.out ((upd_ne (by decide)).symm.trans hk)), fun hk => (F20.out ((upd_ne (by decide)).symm.trans hk)), fun hk => (let ⟨h20, b, e, hl, hB⟩ := (F21.out ((upd_ne (by decide)).symm.trans hk)); ⟨(upd_ne (by decide)).trans h20, b, e, hl, hB⟩)⟩
  · rintro L A X ⟨v3, v7, v8, v9, v10, v11, v12, v13, v14, v15, v16, v17, v18, v19, v20, v21, v22, v23, v24, v25, v26, rfl, hw, f0, f1, f2, f3, f4, f5, f6, f7, f8, f9, f10, f11, f12, f13, f14, f15, f16, f17, f18, f19, f20, f21⟩ hL hdep K hK
    clear hdep
    have F0 := Lib.hid f0
    have F1 := Lib.hid f1
    have F2 := Lib.hid f2
    have F3 := Lib.hid f3
    have F4 := Lib.hid f4
    have F5 := Lib.hid f5
    have F6 := Lib.hid f6
    have F7 := Lib.hid f7
    have F8 := Lib.hid f8
    have F9 := Lib.hid f9
    have F10 := Lib.hid f10
    have F11 := Lib.hid f11
    have F12 := Lib.hid f12
    have F13 := Lib.hid f13
    have F14 := Lib.hid f14
    have F15 := Lib.hid f15
    have F16 := Lib.hid f16
    have F17 := Lib.hid f17
    have F18 := Lib.hid f18
    have F19 := Lib.hid f19
    have F20 := Lib.hid f20
    have F21 := Lib.hid f21
    have HW := Lib.hid hw
    clear hw f0 f1 f2 f3 f4 f5 f6 f7 f8 f9 f10 f11 f12 f13 f14 f15 f16 f17 f18 f19 f20 f21
    go_simp
    refine hK.out _ _ ?_
    exact ⟨_, _, _, _, _, _, _, _, _, _, _, _, _, _, _, _, _, _, _, _, _, rfl, HW.out, fun hk => (F0.out ((upd_ne (by decide)).symm.trans hk)), fun hk => (F1.out ((upd_ne (by decide)).symm.trans hk)), fun hk => (F2.out ((upd_ne (by decide)).symm.trans hk)), fun hk => (F3.out ((upd_ne (by decide)).symm.trans hk)), fun hk => (F4.out ((upd_ne (by decide)).symm.trans hk)), fun hk => (F5.out ((upd_ne (by decide)).symm.trans hk)), fun _ => rfl, fun hk => (F7.out ((upd_ne (by decide)).symm.trans hk)), fun hk => (F8.out ((upd_ne (by decide)).symm.trans hk)), fun hk => (F9.out ((upd_ne (by decide)).symm.trans hk)), fun hk => (F10.out ((upd_ne (by decide)).symm.trans hk)), fun hk => (F11.out ((upd_ne (by decide)).symm.trans hk)), fun hk => (F12.out ((upd_ne (by decide)).symm.trans hk)), fun hk => (F13.out ((upd_ne (by decide)).symm.trans hk)), fun hk => (F14.out ((upd_ne (by decide)).symm.trans hk)), fun hk => (F15.out ((upd_ne (by decide)).symm.trans hk)), fun hk => (F16.out ((upd_ne (by decide)).symm.trans hk)), fun hk => (F17.out ((upd_ne (by decide)).symm.trans hk)), fun hk => (F18.out ((upd_ne (by decide)).symm.trans hk)), fun hk => (F19.out ((upd_ne (by decide)).symm.trans hk)), fun hk => (F20.out ((upd_ne (by decide)).symm.trans hk)), fun hk => (let ⟨h20, b, e, hl, hB⟩ := (F21.out ((upd_ne (by decide)).symm.trans hk)); ⟨(upd_ne (by decide)).trans h20, b, e, hl, hB⟩)⟩
  · rintro L A X ⟨v3, v7, v8, v9, v10, v11, v12, v13, v14, v15, v16, v17, v18, v19, v20, v21, v22, v23, v24, v25, v26, rfl, hw, f0, f1, f2, f3, f4, f5, f6, f7, f8, f9, f10, f11, f12, f13, f14, f15, f16, f17, f18, f19, f20, f21⟩ hL hdep K hK
    simp at hdep
    have d6 : L 6 = true := by first | exact hdep | exact hdep.1 | exact hdep.2 | exact hdep.2.1 | exact hdep.2.2 | exact hdep.2.2.1 | exact hdep.2.2.2
    have e6 := (f6 d6); subst e6
    clear hdep
    have c := Kn.c hw (b := w.heap.size) (T := 37) (vs := x.cs s q) (by simp) 1 _ rfl
    have c2 := Kn.c hw (b := w.heap.size) (T := 37) (vs := x.cs s q) (by simp) 2 _ rfl
    have F0 := Lib.hid f0
    have F1 := Lib.hid f1
    have F2 := Lib.hid f2
    have F3 := Lib.hid f3
    have F4 := Lib.hid f4
    have F5 := Lib.hid f5
    have F6 := Lib.hid f6
    have F7 := Lib.hid f7
    have F8 := Lib.hid f8
    have F9 := Lib.hid f9
    have F10 := Lib.hid f10
    have F11 := Lib.hid f11
    have F12 := Lib.hid f12
    have F13 := Lib.hid f13
    have F14 := Lib.hid f14
    have F15 := Lib.hid f15
    have F16 := Lib.hid f16
    have F17 := Lib.hid f17
    have F18 := Lib.hid f18
    have F19 := Lib.hid f19
    have F20 := Lib.hid f20
    have F21 := Lib.hid f21
    have HW := Lib.hid hw
    clear hw f0 f1 f2 f3 f4 f5 f6 f7 f8 f9 f10 f11 f12 f13 f14 f15 f16 f17 f18 f19 f20 f21
    go_simp
    refine hK.out _ _ ?_
    exact ⟨_, _, _, _, _, _, _, _, _, _, _, _, _, _, _, _, _, _, _, _, _, rfl, HW.out, fun hk => (F0.out ((upd_ne (by decide)).symm.trans hk)), fun hk => (F1.out ((upd_ne (by decide)).symm.trans hk)), fun hk => (F2.out ((upd_ne (by decide)).symm.trans hk)), fun hk => (F3.out ((upd_ne (by decide)).symm.trans hk)), fun hk => (F4.out ((upd_ne (by decide)).symm.trans hk)), fun hk => (F5.out ((upd_ne (by decide)).symm.trans hk)), fun _ => rfl, fun _ => rfl, fun hk => (F8.out ((upd_ne (by decide)).symm.trans hk)), fun hk => (F9.out ((upd_ne (by decide)).symm.trans hk)), fun hk => (F10.out ((upd_ne (by decide)).symm.trans hk)), fun hk => (F11.out ((upd_ne (by decide)).symm.trans hk)), fun hk => (F12.out ((upd_ne (by decide)).symm.trans hk)), fun hk => (F13.out ((upd_ne (by decide)).symm.trans hk)), fun hk => (F14.out ((upd_ne (by decide)).symm.trans hk)), fun hk => (F15.out ((upd_ne (by decide)).symm.trans hk)), fun hk => (F16.out ((upd_ne (by decide)).symm.trans hk)), fun hk => (F17.out ((upd_ne (by decide)).symm.trans hk)), fun hk => (F18.out ((upd_ne (by decide)).symm.trans hk)), fun hk => (F19.out ((upd_ne (by decide)).symm.trans hk)), fun hk => (F20.out ((upd_ne (by decide)).symm.trans hk)), fun hk => (let ⟨h20, b, e, hl, hB⟩ := (F21.out ((upd_ne (by decide)).symm.trans hk)); ⟨(upd_ne (by decide)).trans h20, b, e, hl, hB⟩)⟩
  · rintro L A X ⟨v3, v7, v8, v9, v10, v11, v12, v13, v14, v15, v16, v17, v18, v19, v20, v21, v22, v23, v24, v25, v26, rfl, hw, f0, f1, f2, f3, f4, f5, f6, f7, f8, f9, f10, f11, f12, f13, f14, f15, f16, f17, f18, f19, f20, f21⟩ hL hdep K hK
    simp at hdep
    have d7 : L 7 = true := by first | exact hdep | exact hdep.1 | exact hdep.2 | exact hdep.2.1 | exact hdep.2.2 | exact hdep.2.2.1 | exact hdep.2.2.2
    have e7 := (f7 d7); subst e7
    clear hdep
    have F0 := Lib.hid f0
    have F1 := Lib.hid f1
    have F2 := Lib.hid f2
    have F3 := Lib.hid f3
    have F4 := Lib.hid f4
    have F5 := Lib.hid f5
    have F6 := Lib.hid f6
    have F7 := Lib.hid f7
    have F8 := Lib.hid f8
    have F9 := Lib.hid f9
    have F10 := Lib.hid f10
    have F11 := Lib.hid f11
    have F12 := Lib.hid f12
    have F13 := Lib.hid f13
    have F14 := Lib.hid f14
    have F15 := Lib.hid f15
    have F16 := Lib.hid f16
    have F17 := Lib.hid f17
    have F18 := Lib.hid f18
    have F19 := Lib.hid f19
    have F20 := Lib.hid f20
    have F21 := Lib.hid f21
    have HW := Lib.hid hw
    clear hw f0 f1 f2 f3 f4 f5 f6 f7 f8 f9 f10 f11 f12 f13 f14 f15 f16 f17 f18 f19 f20 f21
    go_simp
    gi_wp2_with fail
    refine ⟨trivial, ?_⟩
    refine (callsIn_wide.2 (G1.out _)).mono ?_
    rintro e y ⟨rfl, hb⟩
    go_simp
    refine hK.out _ _ ?_
    exact ⟨_, _, _, _, _, _, _, _, _, _, _, _, _, _, _, _, _, _, _, _, _, rfl, Kn.stay HW.out hb, fun hk => (F0.out ((upd_ne (by decide)).symm.trans hk)), fun hk => (F1.out ((upd_ne (by decide)).symm.trans hk)), fun hk => (F2.out ((upd_ne (by decide)).symm.trans hk)), fun hk => (F3.out ((upd_ne (by decide)).symm.trans hk)), fun hk => (F4.out ((upd_ne (by decide)).symm.trans hk)), fun hk => (F5.out ((upd_ne (by decide)).symm.trans hk)), fun hk => (F6.out ((upd_ne (by decide)).symm.trans hk)), fun _ => rfl, fun _ => rfl, fun hk => (F9.out ((upd_ne (by decide)).symm.trans hk)), fun hk => (F10.out ((upd_ne (by decide)).symm.trans hk)), fun hk => (F11.out ((upd_ne (by decide)).symm.trans hk)), fun hk => (F12.out ((upd_ne (by decide)).symm.trans hk)), fun hk => (F13.out ((upd_ne (by decide)).symm.trans hk)), fun hk => (F14.out ((upd_ne (by decide)).symm.trans hk)), fun hk => (F15.out ((upd_ne (by decide)).symm.trans hk)), fun hk => (F16.out ((upd_ne (by decide)).symm.trans hk)), fun hk => (F17.out ((upd_ne (by decide)).symm.trans hk)), fun hk => (F18.out ((upd_ne (by decide)).symm.trans hk)), fun hk => (F19.out ((upd_ne (by decide)).symm.trans hk)), fun hk => (let ⟨b, e, hl, c, hB⟩ := (F20.out ((upd_ne (by decide)).symm.trans hk)); ⟨b, e, hl, c, hB.stay hb⟩), fun hk => (let ⟨h20, b, e, hl, hB⟩ := (F21.out ((upd_ne (by decide)).symm.trans hk)); ⟨(upd_ne (by decide)).trans h20, b, e, hl, hB.stay hb⟩)⟩
  · rintro L A X ⟨v3, v7, v8, v9, v10, v11, v12, v13, v14, v15, v16, v17, v18, v19, v20, v21, v22, v23, v24, v25, v26, rfl, hw, f0, f1, f2, f3, f4, f5, f6, f7, f8, f9, f10, f11, f12, f13, f14, f15, f16, f17, f18, f19, f20, f21⟩ hL hdep K hK
    simp at hdep
    have d5 : L 5 = true := by first | exact hdep | exact hdep.1 | exact hdep.2 | exact hdep.2.1 | exact hdep.2.2 | exact hdep.2.2.1 | exact hdep.2.2.2
    have d8 : L 8 = true := by first | exact hdep | exact hdep.1 | exact hdep.2 | exact hdep.2.1 | exact hdep.2.2 | exact hdep.2.2.1 | exact hdep.2.2.2
    have e5 := (f5 d5); subst e5
    have e8 := (f8 d8); subst e8
    clear hdep
    have F0 := Lib.hid f0
    have F1 := Lib.hid f1
    have F2 := Lib.hid f2
    have F3 := Lib.hid f3
    have F4 := Lib.hid f4
    have F5 := Lib.hid f5
    have F6 := Lib.hid f6
    have F7 := Lib.hid f7
    have F8 := Lib.hid f8
    have F9 := Lib.hid f9
    have F10 := Lib.hid f10
    have F11 := Lib.hid f11
    have F12 := Lib.hid f12
    have F13 := Lib.hid f13
    have F14 := Lib.hid f14
    have F15 := Lib.hid f15
    have F16 := Lib.hid f16
    have F17 := Lib.hid f17
    have F18 := Lib.hid f18
    have F19 := Lib.hid f19
    have F20 := Lib.hid f20
    have F21 := Lib.hid f21
    have HW := Lib.hid hw
    clear hw f0 f1 f2 f3 f4 f5 f6 f7 f8 f9 f10 f11 f12 f13 f14 f15 f16 f17 f18 f19 f20 f21
    go_simp
    refine hK.out _ _ ?_
    exact ⟨_, _, _, _, _, _, _, _, _, _, _, _, _, _, _, _, _, _, _, _, _, rfl, HW.out, fun hk => (F0.out ((upd_ne (by decide)).symm.trans hk)), fun hk => (F1.out ((upd_ne (by decide)).symm.trans hk)), fun hk => (F2.out ((upd_ne (by decide)).symm.trans hk)), fun hk => (F3.out ((upd_ne (by decide)).symm.trans hk)), fun hk => (F4.out ((upd_ne (by decide)).symm.trans hk)), fun _ => rfl, fun hk => (F6.out ((upd_ne (by decide)).symm.trans hk)), fun hk => (F7.out ((upd_ne (by decide)).symm.trans hk)), fun _ => rfl, fun _ => rfl, fun hk => (F10.out ((upd_ne (by decide)).symm.trans hk)), fun hk => (F11.out ((upd_ne (by decide)).symm.trans hk)), fun hk => (F12.out ((upd_ne (by decide)).symm.trans hk)), fun hk => (F13.out ((upd_ne (by decide)).symm.trans hk)), fun hk => (F14.out ((upd_ne (by decide)).symm.trans hk)), fun hk => (F15.out ((upd_ne (by decide)).symm.trans hk)), fun hk => (F16.out ((upd_ne (by decide)).symm.trans hk)), fun hk => (F17.out ((upd_ne (by decide)).symm.trans hk)), fun hk => (F18.out ((upd_ne (by decide)).symm.trans hk)), fun hk => (F19.out ((upd_ne (by decide)).symm.trans hk)), fun hk => (F20.out ((upd_ne (by decide)).symm.trans hk)), fun hk => (let ⟨h20, b, e, hl, hB⟩ := (F21.out ((upd_ne (by decide)).symm.trans hk)); ⟨(upd_ne (by decide)).trans h20, b, e, hl, hB⟩)⟩
  · rintro L A X ⟨v3, v7, v8, v9, v10, v11, v12, v13, v14, v15, v16, v17, v18, v19, v20, v21, v22, v23, v24, v25, v26, rfl, hw, f0, f1, f2, f3, f4, f5, f6, f7, f8, f9, f10, f11, f12, f13, f14, f15, f16, f17, f18, f19, f20, f21⟩ hL hdep K hK
    simp at hdep
    have d9 : L 9 = true := by first | exact hdep | exact hdep.1 | exact hdep.2 | exact hdep.2.1 | exact hdep.2.2 | exact hdep.2.2.1 | exact hdep.2.2.2
    have e9 := (f9 d9); subst e9
    clear hdep
    have F0 := Lib.hid f0
    have F1 := Lib.hid f1
    have F2 := Lib.hid f2
    have F3 := Lib.hid f3
    have F4 := Lib.hid f4
    have F5 := Lib.hid f5
    have F6 := Lib.hid f6
    have F7 := Lib.hid f7
    have F8 := Lib.hid f8
    have F9 := Lib.hid f9
    have F10 := Lib.hid f10
    have F11 := Lib.hid f11
    have F12 := Lib.hid f12
    have F13 := Lib.hid f13
    have F14 := Lib.hid f14
    have F15 := Lib.hid f15
    have F16 := Lib.hid f16
    have F17 := Lib.hid f17
    have F18 := Lib.hid f18
    have F19 := Lib.hid f19
    have F20 := Lib.hid f20
    have F21 := Lib.hid f21
    have HW := Lib.hid hw
    clear hw f0 f1 f2 f3 f4 f5 f6 f7 f8 f9 f10 f11 f12 f13 f14 f15 f16 f17 f18 f19 f20 f21
    go_simp
    refine hK.out _ _ ?_
    exact ⟨_, _, _, _, _, _, _, _, _, _, _, _, _, _, _, _, _, _, _, _, _, rfl, HW.out, fun hk => (F0.out ((upd_ne (by decide)).symm.trans hk)), fun hk => (F1.out ((upd_ne (by decide)).symm.trans hk)), fun hk => (F2.out ((upd_ne (by decide)).symm.trans hk)), fun hk => (F3.out ((upd_ne (by decide)).symm.trans hk)), fun hk => (F4.out ((upd_ne (by decide)).symm.trans hk)), fun hk => (F5.out ((upd_ne (by decide)).symm.trans hk)), fun hk => (F6.out ((upd_ne (by decide)).symm.trans hk)), fun hk => (F7.out ((upd_ne (by decide)).symm.trans hk)), fun hk => (F8.out ((upd_ne (by decide)).symm.trans hk)), fun _ => rfl, fun _ => rfl, fun hk => (F11.out ((upd_ne (by decide)).symm.trans hk)), fun hk => (F12.out ((upd_ne (by decide)).symm.trans hk)), fun hk => (F13.out ((upd_ne (by decide)).symm.trans hk)), fun hk => (F14.out ((upd_ne (by decide)).symm.trans hk)), fun hk => (F15.out ((upd_ne (by decide)).symm.trans hk)), fun hk => (F16.out ((upd_ne (by decide)).symm.trans hk)), fun hk => (F17.out ((upd_ne (by decide)).symm.trans hk)), fun hk => (F18.out ((upd_ne (by decide)).symm.trans hk)), fun hk => (F19.out ((upd_ne (by decide)).symm.trans hk)), fun hk => (F20.out ((upd_ne (by decide)).symm.trans hk)), fun hk => (let ⟨h20, b, e, hl, hB⟩ := (F21.out ((upd_ne (by decide)).symm.trans hk)); ⟨(upd_ne (by decide)).trans h20, b, e, hl, hB⟩)⟩
  · rintro L A X ⟨v3, v7, v8, v9, v10, v11, v12, v13, v14, v15, v16, v17, v18, v19, v20, v21, v22, v23, v24, v25, v26, rfl, hw, f0, f1, f2, f3, f4, f5, f6, f7, f8, f9, f10, f11, f12, f13, f14, f15, f16, f17, f18, f19, f20, f21⟩ hL hdep K hK
    clear hdep
    have F0 := Lib.hid f0
    have F1 := Lib.hid f1
    have F2 := Lib.hid f2
    have F3 := Lib.hid f3
    have F4 := Lib.hid f4
    have F5 := Lib.hid f5
    have F6 := Lib.hid f6
    have F7 := Lib.hid f7
    have F8 := Lib.hid f8
    have F9 := Lib.hid f9
    have F10 := Lib.hid f10
    have F11 := Lib.hid f11
    have F12 := Lib.hid f12
    have F13 := Lib.hid f13
    have F14 := Lib.hid f14
    have F15 := Lib.hid f15
    have F16 := Lib.hid f16
    have F17 := Lib.hid f17
    have F18 := Lib.hid f18
    have F19 := Lib.hid f19
    have F20 := Lib.hid f20
    have F21 := Lib.hid f21
    have HW := Lib.hid hw
    clear hw f0 f1 f2 f3 f4 f5 f6 f7 f8 f9 f10 f11 f12 f13 f14 f15 f16 f17 f18 f19 f20 f21
    go_simp
    refine hK.out _ _ ?_
    exact ⟨_, _, _, _, _, _, _, _, _, _, _, _, _, _, _, _, _, _, _, _, _, rfl, HW.out, fun hk => (F0.out ((upd_ne (by decide)).symm.trans hk)), fun hk => (F1.out ((upd_ne (by decide)).symm.trans hk)), fun hk => (F2.out ((upd_ne (by decide)).symm.trans hk)), fun hk => (F3.out ((upd_ne (by decide)).symm.trans hk)), fun hk => (F4.out ((upd_ne (by decide)).symm.trans hk)), fun hk => (F5.out ((upd_ne (by decide)).symm.trans hk)), fun hk => (F6.out ((upd_ne (by decide)).symm.trans hk)), fun hk => (F7.out ((upd_ne (by decide)).symm.trans hk)), fun hk => (F8.out ((upd_ne (by decide)).symm.trans hk)), fun hk => (F9.out ((upd_ne (by decide)).symm.trans hk)), fun hk => (F10.out ((upd_ne (by decide)).symm.trans hk)), fun _ => rfl, fun hk => (F12.out ((upd_ne (by decide)).symm.trans hk)), fun hk => (F13.out ((upd_ne (by decide)).symm.trans hk)), fun hk => (F14.out ((upd_ne (by decide)).symm.trans hk)), fun hk => (F15.out ((upd_ne (by decide)).symm.trans hk)), fun hk => (F16.out ((upd_ne (by decide)).symm.trans hk)), fun hk => (F17.out ((upd_ne (by decide)).symm.trans hk)), fun hk => (F18.out ((upd_ne (by decide)).symm.trans hk)), fun hk => (F19.out ((upd_ne (by decide)).symm.trans hk)), fun hk => (F20.out ((upd_ne (by decide)).symm.trans hk)), fun hk => (let ⟨h20, b, e, hl, hB⟩ := (F21.out ((upd_ne (by decide)).symm.trans hk)); ⟨(upd_ne (by decide)).trans h20, b, e, hl, hB⟩)⟩
  · rintro L A X ⟨v3, v7, v8, v9, v10, v11, v12, v13, v14, v15, v16, v17, v18, v19, v20, v21, v22, v23, v24, v25, v26, rfl, hw, f0, f1, f2, f3, f4, f5, f6, f7, f8, f9, f10, f11, f12, f13, f14, f15, f16, f17, f18, f19, f20, f21⟩ hL hdep K hK
    simp at hdep
    have d11 : L 11 = true := by first | exact hdep | exact hdep.1 | exact hdep.2 | exact hdep.2.1 | exact hdep.2.2 | exact hdep.2.2.1 | exact hdep.2.2.2
    have e11 := (f11 d11); subst e11
    clear hdep
    have c := Kn.c hw (b := w.heap.size) (T := 37) (vs := x.cs s q) (by simp) 3 _ rfl
    have F0 := Lib.hid f0
    have F1 := Lib.hid f1
    have F2 := Lib.hid f2
    have F3 := Lib.hid f3
    have F4 := Lib.hid f4
    have F5 := Lib.hid f5
    have F6 := Lib.hid f6
    have F7 := Lib.hid f7
    have F8 := Lib.hid f8
    have F9 := Lib.hid f9
    have F10 := Lib.hid f10
    have F11 := Lib.hid f11
    have F12 := Lib.hid f12
    have F13 := Lib.hid f13
    have F14 := Lib.hid f14
    have F15 := Lib.hid f15
    have F16 := Lib.hid f16
    have F17 := Lib.hid f17
    have F18 := Lib.hid f18
    have F19 := Lib.hid f19
    have F20 := Lib.hid f20
    have F21 := Lib.hid f21
    have HW := Lib.hid hw
    clear hw f0 f1 f2 f3 f4 f5 f6 f7 f8 f9 f10 f11 f12 f13 f14 f15 f16 f17 f18 f19 f20 f21
    go_simp
    refine hK.out _ _ ?_
    exact ⟨_, _, _, _, _, _, _, _, _, _, _, _, _, _, _, _, _, _, _, _, _, rfl, HW.out, fun hk => (F0.out ((upd_ne (by decide)).symm.trans hk)), fun hk => (F1.out ((upd_ne (by decide)).symm.trans hk)), fun hk => (F2.out ((upd_ne (by decide)).symm.trans hk)), fun hk => (F3.out ((upd_ne (by decide)).symm.trans hk)), fun hk => (F4.out ((upd_ne (by decide)).symm.trans hk)), fun hk => (F5.out ((upd_ne (by decide)).symm.trans hk)), fun hk => (F6.out ((upd_ne (by decide)).symm.trans hk)), fun hk => (F7.out ((upd_ne (by decide)).symm.trans hk)), fun hk => (F8.out ((upd_ne (by decide)).symm.trans hk)), fun hk => (F9.out ((upd_ne (by decide)).symm.trans hk)), fun hk => (F10.out ((upd_ne (by decide)).symm.trans hk)), fun _ => rfl, fun _ => rfl, fun hk => (F13.out ((upd_ne (by decide)).symm.trans hk)), fun hk => (F14.out ((upd_ne (by decide)).symm.trans hk)), fun hk => (F15.out ((upd_ne (by decide)).symm.trans hk)), fun hk => (F16.out ((upd_ne (by decide)).symm.trans hk)), fun hk => (F17.out ((upd_ne (by decide)).symm.trans hk)), fun hk => (F18.out ((upd_ne (by decide)).symm.trans hk)), fun hk => (F19.out ((upd_ne (by decide)).symm.trans hk)), fun hk => (F20.out ((upd_ne (by decide)).symm.trans hk)), fun hk => (let ⟨h20, b, e, hl, hB⟩ := (F21.out ((upd_ne (by decide)).symm.trans hk)); ⟨(upd_ne (by decide)).trans h20, b, e, hl, hB⟩)⟩
  · rintro L A X ⟨v3, v7, v8, v9, v10, v11, v12, v13, v14, v15, v16, v17, v18, v19, v20, v21, v22, v23, v24, v25, v26, rfl, hw, f0, f1, f2, f3, f4, f5, f6, f7, f8, f9, f10, f11, f12, f13, f14, f15, f16, f17, f18, f19, f20, f21⟩ hL hdep K hK
    simp at hdep
    have d12 : L 12 = true := by first | exact hdep | exact hdep.1 | exact hdep.2 | exact hdep.2.1 | exact hdep.2.2 | exact hdep.2.2.1 | exact hdep.2.2.2
    have e12 := (f12 d12); subst e12
    clear hdep
    have F0 := Lib.hid f0
    have F1 := Lib.hid f1
    have F2 := Lib.hid f2
    have F3 := Lib.hid f3
    have F4 := Lib.hid f4
    have F5 := Lib.hid f5
    have F6 := Lib.hid f6
    have F7 := Lib.hid f7
    have F8 := Lib.hid f8
    have F9 := Lib.hid f9
    have F10 := Lib.hid f10
    have F11 := Lib.hid f11
    have F12 := Lib.hid f12
    have F13 := Lib.hid f13
    have F14 := Lib.hid f14
    have F15 := Lib.hid f15
    have F16 := Lib.hid f16
    have F17 := Lib.hid f17
    have F18 := Lib.hid f18
    have F19 := Lib.hid f19
    have F20 := Lib.hid f20
    have F21 := Lib.hid f21
    have HW := Lib.hid hw
    clear hw f0 f1 f2 f3 f4 f5 f6 f7 f8 f9 f10 f11 f12 f13 f14 f15 f16 f17 f18 f19 f20 f21
    go_simp
    gi_wp2_with fail
    refine ⟨trivial, ?_⟩
    refine (callsIn_wide.2 (G2.out X HW.out.1)).mono ?_
    rintro e y ⟨rfl, hb⟩
    go_simp
    refine hK.out _ _ ?_
    exact ⟨_, _, _, _, _, _, _, _, _, _, _, _, _, _, _, _, _, _, _, _, _, rfl, Kn.stay HW.out hb, fun hk => (F0.out ((upd_ne (by decide)).symm.trans hk)), fun hk => (F1.out ((upd_ne (by decide)).symm.trans hk)), fun hk => (F2.out ((upd_ne (by decide)).symm.trans hk)), fun hk => (F3.out ((upd_ne (by decide)).symm.trans hk)), fun hk => (F4.out ((upd_ne (by decide)).symm.trans hk)), fun hk => (F5.out ((upd_ne (by decide)).symm.trans hk)), fun hk => (F6.out ((upd_ne (by decide)).symm.trans hk)), fun hk => (F7.out ((upd_ne (by decide)).symm.trans hk)), fun hk => (F8.out ((upd_ne (by decide)).symm.trans hk)), fun hk => (F9.out ((upd_ne (by decide)).symm.trans hk)), fun hk => (F10.out ((upd_ne (by decide)).symm.trans hk)), fun hk => (F11.out ((upd_ne (by decide)).symm.trans hk)), fun _ => rfl, fun _ => rfl, fun hk => (F14.out ((upd_ne (by decide)).symm.trans hk)), fun hk => (F15.out ((upd_ne (by decide)).symm.trans hk)), fun hk => (F16.out ((upd_ne (by decide)).symm.trans hk)), fun hk => (F17.out ((upd_ne (by decide)).symm.trans hk)), fun hk => (F18.out ((upd_ne (by decide)).symm.trans hk)), fun hk => (F19.out ((upd_ne (by decide)).symm.trans hk)), fun hk => (let ⟨b, e, hl, c, hB⟩ := (F20.out ((upd_ne (by decide)).symm.trans hk)); ⟨b, e, hl, c, hB.stay hb⟩), fun hk => (let ⟨h20, b, e, hl, hB⟩ := (F21.out ((upd_ne (by decide)).symm.trans hk)); ⟨(upd_ne (by decide)).trans h20, b, e, hl, hB.stay hb⟩)⟩
  · rintro L A X ⟨v3, v7, v8, v9, v10, v11, v12, v13, v14, v15, v16, v17, v18, v19, v20, v21, v22, v23, v24, v25, v26, rfl, hw, f0, f1, f2, f3, f4, f5, f6, f7, f8, f9, f10, f11, f12, f13, f14, f15, f16, f17, f18, f19, f20, f21⟩ hL hdep K hK
    simp at hdep
    have d10 : L 10 = true := by first | exact hdep | exact hdep.1 | exact hdep.2 | exact hdep.2.1 | exact hdep.2.2 | exact hdep.2.2.1 | exact hdep.2.2.2
    have d13 : L 13 = true := by first | exact hdep | exact hdep.1 | exact hdep.2 | exact hdep.2.1 | exact hdep.2.2 | exact hdep.2.2.1 | exact hdep.2.2.2
    have e10 := (f10 d10); subst e10
    have e13 := (f13 d13); subst e13
    clear hdep
    have F0 := Lib.hid f0
    have F1 := Lib.hid f1
    have F2 := Lib.hid f2
    have F3 := Lib.hid f3
    have F4 := Lib.hid f4
    have F5 := Lib.hid f5
    have F6 := Lib.hid f6
    have F7 := Lib.hid f7
    have F8 := Lib.hid f8
    have F9 := Lib.hid f9
    have F10 := Lib.hid f10
    have F11 := Lib.hid f11
    have F12 := Lib.hid f12
    have F13 := Lib.hid f13
    have F14 := Lib.hid f14
    have F15 := Lib.hid f15
    have F16 := Lib.hid f16
    have F17 := Lib.hid f17
    have F18 := Lib.hid f18
    have F19 := Lib.hid f19
    have F20 := Lib.hid f20
    have F21 := Lib.hid f21
    have HW := Lib.hid hw
    clear hw f0 f1 f2 f3 f4 f5 f6 f7 f8 f9 f10 f11 f12 f13 f14 f15 f16 f17 f18 f19 f20 f21
    go_simp
    refine hK.out _ _ ?_
    exact ⟨_, _, _, _, _, _, _, _, _, _, _, _, _, _, _, _, _, _, _, _, _, rfl, HW.out, fun hk => (F0.out ((upd_ne (by decide)).symm.trans hk)), fun hk => (F1.out ((upd_ne (by decide)).symm.trans hk)), fun hk => (F2.out ((upd_ne (by decide)).symm.trans hk)), fun hk => (F3.out ((upd_ne (by decide)).symm.trans hk)), fun hk => (F4.out ((upd_ne (by decide)).symm.trans hk)), fun hk => (F5.out ((upd_ne (by decide)).symm.trans hk)), fun hk => (F6.out ((upd_ne (by decide)).symm.trans hk)), fun hk => (F7.out ((upd_ne (by decide)).symm.trans hk)), fun hk => (F8.out ((upd_ne (by decide)).symm.trans hk)), fun hk => (F9.out ((upd_ne (by decide)).symm.trans hk)), fun _ => rfl, fun hk => (F11.out ((upd_ne (by decide)).symm.trans hk)), fun hk => (F12.out ((upd_ne (by decide)).symm.trans hk)), fun _ => rfl, fun _ => rfl, fun hk => (F15.out ((upd_ne (by decide)).symm.trans hk)), fun hk => (F16.out ((upd_ne (by decide)).symm.trans hk)), fun hk => (F17.out ((upd_ne (by decide)).symm.trans hk)), fun hk => (F18.out ((upd_ne (by decide)).symm.trans hk)), fun hk => (F19.out ((upd_ne (by decide)).symm.trans hk)), fun hk => (F20.out ((upd_ne (by decide)).symm.trans hk)), fun hk => (let ⟨h20, b, e, hl, hB⟩ := (F21.out ((upd_ne (by decide)).symm.trans hk)); ⟨(upd_ne (by decide)).trans h20, b, e, hl, hB⟩)⟩
  · rintro L A X ⟨v3, v7, v8, v9, v10, v11, v12, v13, v14, v15, v16, v17, v18, v19, v20, v21, v22, v23, v24, v25, v26, rfl, hw, f0, f1, f2, f3, f4, f5, f6, f7, f8, f9, f10, f11, f12, f13, f14, f15, f16, f17, f18, f19, f20, f21⟩ hL hdep K hK
    simp at hdep
    have d14 : L 14 = true := by first | exact hdep | exact hdep.1 | exact hdep.2 | exact hdep.2.1 | exact hdep.2.2 | exact hdep.2.2.1 | exact hdep.2.2.2
    have e14 := (f14 d14); subst e14
    clear hdep
    have F0 := Lib.hid f0
    have F1 := Lib.hid f1
    have F2 := Lib.hid f2
    have F3 := Lib.hid f3
    have F4 := Lib.hid f4
    have F5 := Lib.hid f5
    have F6 := Lib.hid f6
    have F7 := Lib.hid f7
    have F8 := Lib.hid f8
    have F9 := Lib.hid f9
    have F10 := Lib.hid f10
    have F11 := Lib.hid f11
    have F12 := Lib.hid f12
    have F13 := Lib.hid f13
    have F14 := Lib.hid f14
    have F15 := Lib.hid f15
    have F16 := Lib.hid f16
    have F17 := Lib.hid f17
    have F18 := Lib.hid f18
    have F19 := Lib.hid f19
    have F20 := Lib.hid f20
    have F21 := Lib.hid f21
    have HW := Lib.hid hw
    clear hw f0 f1 f2 f3 f4 f5 f6 f7 f8 f9 f10 f11 f12 f13 f14 f15 f16 f17 f18 f19 f20 f21
    go_simp
    refine hK.out _ _ ?_
    exact ⟨_, _, _, _, _, _, _, _, _, _, _, _, _, _, _, _, _, _, _, _, _, rfl, HW.out, fun hk => (F0.out ((upd_ne (by decide)).symm.trans hk)), fun hk => (F1.out ((upd_ne (by decide)).symm.trans hk)), fun hk => (F2.out ((upd_ne (by decide)).symm.trans hk)), fun hk => (F3.out ((upd_ne (by decide)).symm.trans hk)), fun hk => (F4.out ((upd_ne (by decide)).symm.trans hk)), fun hk => (F5.out ((upd_ne (by decide)).symm.trans hk)), fun hk => (F6.out ((upd_ne (by decide)).symm.trans hk)), fun hk => (F7.out ((upd_ne (by decide)).symm.trans hk)), fun hk => (F8.out ((upd_ne (by decide)).symm.trans hk)), fun hk => (F9.out ((upd_ne (by decide)).symm.trans hk)), fun hk => (F10.out ((upd_ne (by decide)).symm.trans hk)), fun hk => (F11.out ((upd_ne (by decide)).symm.trans hk)), fun hk => (F12.out ((upd_ne (by decide)).symm.trans hk)), fun hk => (F13.out ((upd_ne (by decide)).symm.trans hk)), fun _ => rfl, fun _ => rfl, fun hk => (F16.out ((upd_ne (by decide)).symm.trans hk)), fun hk => (F17.out ((upd_ne (by decide)).symm.trans hk)), fun hk => (F18.out ((upd_ne (by decide)).symm.trans hk)), fun hk => (F19.out ((upd_ne (by decide)).symm.trans hk)), fun hk => (F20.out ((upd_ne (by decide)).symm.trans hk)), fun hk => (let ⟨h20, b, e, hl, hB⟩ := (F21.out ((upd_ne (by decide)).symm.trans hk)); ⟨(upd_ne (by decide)).trans h20, b, e, hl, hB⟩)⟩
  · rintro L A X ⟨v3, v7, v8, v9, v10, v11, v12, v13, v14, v15, v16, v17, v18, v19, v20, v21, v22, v23, v24, v25, v26, rfl, hw, f0, f1, f2, f3, f4, f5, f6, f7, f8, f9, f10, f11, f12, f13, f14, f15, f16, f17, f18, f19, f20, f21⟩ hL hdep K hK
    clear hdep
    have F0 := Lib.hid f0
    have F1 := Lib.hid f1
    have F2 := Lib.hid f2
    have F3 := Lib.hid f3
    have F4 := Lib.hid f4
    have F5 := Lib.hid f5
    have F6 := Lib.hid f6
    have F7 := Lib.hid f7
    have F8 := Lib.hid f8
    have F9 := Lib.hid f9
    have F10 := Lib.hid f10
    have F11 := Lib.hid f11
    have F12 := Lib.hid f12
    have F13 := Lib.hid f13
    have F14 := Lib.hid f14
    have F15 := Lib.hid f15
    have F16 := Lib.hid f16
    have F17 := Lib.hid f17
    have F18 := Lib.hid f18
    have F19 := Lib.hid f19
    have F20 := Lib.hid f20
    have F21 := Lib.hid f21
    have HW := Lib.hid hw
    clear hw f0 f1 f2 f3 f4 f5 f6 f7 f8 f9 f10 f11 f12 f13 f14 f15 f16 f17 f18 f19 f20 f21
    go_simp
    refine hK.out _ _ ?_
    exact ⟨_, _, _, _, _, _, _, _, _, _, _, _, _, _, _, _, _, _, _, _, _, rfl, HW.out, fun hk => (F0.out ((upd_ne (by decide)).symm.trans hk)), fun hk => (F1.out ((upd_ne (by decide)).symm.trans hk)), fun hk => (F2.out ((upd_ne (by decide)).symm.trans hk)), fun hk => (F3.out ((upd_ne (by decide)).symm.trans hk)), fun hk => (F4.out ((upd_ne (by decide)).symm.trans hk)), fun hk => (F5.out ((upd_ne (by decide)).symm.trans hk)), fun hk => (F6.out ((upd_ne (by decide)).symm.trans hk)), fun hk => (F7.out ((upd_ne (by decide)).symm.trans hk)), fun hk => (F8.out ((upd_ne (by decide)).symm.trans hk)), fun hk => (F9.out ((upd_ne (by decide)).symm.trans hk)), fun hk => (F10.out ((upd_ne (by decide)).symm.trans hk)), fun hk => (F11.out ((upd_ne (by decide)).symm.trans hk)), fun hk => (F12.out ((upd_ne (by decide)).symm.trans hk)), fun hk => (F13.out ((upd_ne (by decide)).symm.trans hk)), fun hk => (F14.out ((upd_ne (by decide)).symm.trans hk)), fun hk => (F15.out ((upd_ne (by decide)).symm.trans hk)), fun _ => rfl, fun hk => (F17.out ((upd_ne (by decide)).symm.trans hk)), fun hk => (F18.out ((upd_ne (by decide)).symm.trans hk)), fun hk => (F19.out ((upd_ne (by decide)).symm.trans hk)), fun hk => (F20.out ((upd_ne (by decide)).symm.trans hk)), fun hk => (let ⟨h20, b, e, hl, hB⟩ := (F21.out ((upd_ne (by decide)).symm.trans hk)); ⟨(upd_ne (by decide)).trans h20, b, e, hl, hB⟩)⟩
  · rintro L A X ⟨v3, v7, v8, v9, v10, v11, v12, v13, v14, v15, v16, v17, v18, v19, v20, v21, v22, v23, v24, v25, v26, rfl, hw, f0, f1, f2, f3, f4, f5, f6, f7, f8, f9, f10, f11, f12, f13, f14, f15, f16, f17, f18, f19, f20, f21⟩ hL hdep K hK
    simp at hdep
    have d16 : L 16 = true := by first | exact hdep | exact hdep.1 | exact hdep.2 | exact hdep.2.1 | exact hdep.2.2 | exact hdep.2.2.1 | exact hdep.2.2.2
    have e16 := (f16 d16); subst e16
    clear hdep
    have c := Kn.c hw (b := w.heap.size) (T := 37) (vs := x.cs s q) (by simp) 4 _ rfl
    have F0 := Lib.hid f0
    have F1 := Lib.hid f1
    have F2 := Lib.hid f2
    have F3 := Lib.hid f3
    have F4 := Lib.hid f4
    have F5 := Lib.hid f5
    have F6 := Lib.hid f6
    have F7 := Lib.hid f7
    have F8 := Lib.hid f8
    have F9 := Lib.hid f9
    have F10 := Lib.hid f10
    have F11 := Lib.hid f11
    have F12 := Lib.hid f12
    have F13 := Lib.hid f13
    have F14 := Lib.hid f14
    have F15 := Lib.hid f15
    have F16 := Lib.hid f16
    have F17 := Lib.hid f17
    have F18 := Lib.hid f18
    have F19 := Lib.hid f19
    have F20 := Lib.hid f20
    have F21 := Lib.hid f21
    have HW := Lib.hid hw
    clear hw f0 f1 f2 f3 f4 f5 f6 f7 f8 f9 f10 f11 f12 f13 f14 f15 f16 f17 f18 f19 f20 f21
    go_simp
    refine hK.out _ _ ?_
    exact ⟨_, _, _, _, _, _, _, _, _, _, _, _, _, _, _, _, _, _, _, _, _, rfl, HW.out, fun hk => (F0.out ((upd_ne (by decide)).symm.trans hk)), fun hk => (F1.out ((upd_ne (by decide)).symm.trans hk)), fun hk => (F2.out ((upd_ne (by decide)).symm.trans hk)), fun hk => (F3.out ((upd_ne (by decide)).symm.trans hk)), fun hk => (F4.out ((upd_ne (by decide)).symm.trans hk)), fun hk => (F5.out ((upd_ne (by decide)).symm.trans hk)), fun hk => (F6.out ((upd_ne (by decide)).symm.trans hk)), fun hk => (F7.out ((upd_ne (by decide)).symm.trans hk)), fun hk => (F8.out ((upd_ne (by decide)).symm.trans hk)), fun hk => (F9.out ((upd_ne (by decide)).symm.trans hk)), fun hk => (F10.out ((upd_ne (by decide)).symm.trans hk)), fun hk => (F11.out ((upd_ne (by decide)).symm.trans hk)), fun hk => (F12.out ((upd_ne (by decide)).symm.trans hk)), fun hk => (F13.out ((upd_ne (by decide)).symm.trans hk)), fun hk => (F14.out ((upd_ne (by decide)).symm.trans hk)), fun hk => (F15.out ((upd_ne (by decide)).symm.trans hk)), fun _ => rfl, fun _ => rfl, fun hk => (F18.out ((upd_ne (by decide)).symm.trans hk)), fun hk => (F19.out ((upd_ne (by decide)).symm.trans hk)), fun hk => (F20.out ((upd_ne (by decide)).symm.trans hk)), fun hk => (let ⟨h20, b, e, hl, hB⟩ := (F21.out ((upd_ne (by decide)).symm.trans hk)); ⟨(upd_ne (by decide)).trans h20, b, e, hl, hB⟩)⟩
  · rintro L A X ⟨v3, v7, v8, v9, v10, v11, v12, v13, v14, v15, v16, v17, v18, v19, v20, v21, v22, v23, v24, v25, v26, rfl, hw, f0, f1, f2, f3, f4, f5, f6, f7, f8, f9, f10, f11, f12, f13, f14, f15, f16, f17, f18, f19, f20, f21⟩ hL hdep K hK
    simp at hdep
    have d17 : L 17 = true := by first | exact hdep | exact hdep.1 | exact hdep.2 | exact hdep.2.1 | exact hdep.2.2 | exact hdep.2.2.1 | exact hdep.2.2.2
    have e17 := (f17 d17); subst e17
    clear hdep
    have F0 := Lib.hid f0
    have F1 := Lib.hid f1
    have F2 := Lib.hid f2
    have F3 := Lib.hid f3
    have F4 := Lib.hid f4
    have F5 := Lib.hid f5
    have F6 := Lib.hid f6
    have F7 := Lib.hid f7
    have F8 := Lib.hid f8
    have F9 := Lib.hid f9
    have F10 := Lib.hid f10
    have F11 := Lib.hid f11
    have F12 := Lib.hid f12
    have F13 := Lib.hid f13
    have F14 := Lib.hid f14
    have F15 := Lib.hid f15
    have F16 := Lib.hid f16
    have F17 := Lib.hid f17
    have F18 := Lib.hid f18
    have F19 := Lib.hid f19
    have F20 := Lib.hid f20
    have F21 := Lib.hid f21
    have HW := Lib.hid hw
    clear hw f0 f1 f2 f3 f4 f5 f6 f7 f8 f9 f10 f11 f12 f13 f14 f15 f16 f17 f18 f19 f20 f21
    go_simp
    gi_wp2_with fail
    refine ⟨trivial, ?_⟩
    refine (callsIn_wide.2 (G3.out X HW.out.1)).mono ?_
    rintro e y ⟨rfl, hb⟩
    go_simp
    refine hK.out _ _ ?_
    exact ⟨_, _, _, _, _, _, _, _, _, _, _, _, _, _, _, _, _, _, _, _, _, rfl, Kn.stay HW.out hb, fun hk => (F0.out ((upd_ne (by decide)).symm.trans hk)), fun hk => (F1.out ((upd_ne (by decide)).symm.trans hk)), fun hk => (F2.out ((upd_ne (by decide)).symm.trans hk)), fun hk => (F3.out ((upd_ne (by decide)).symm.trans hk)), fun hk => (F4.out ((upd_ne (by decide)).symm.trans hk)), fun hk => (F5.out ((upd_ne (by decide)).symm.trans hk)), fun hk => (F6.out ((upd_ne (by decide)).symm.trans hk)), fun hk => (F7.out ((upd_ne (by decide)).symm.trans hk)), fun hk => (F8.out ((upd_ne (by decide)).symm.trans hk)), fun hk => (F9.out ((upd_ne (by decide)).symm.trans hk)), fun hk => (F10.out ((upd_ne (by decide)).symm.trans hk)), fun hk => (F11.out ((upd_ne (by decide)).symm.trans hk)), fun hk => (F12.out ((upd_ne (by decide)).symm.trans hk)), fun hk => (F13.out ((upd_ne (by decide)).symm.trans hk)), fun hk => (F14.out ((upd_ne (by decide)).symm.trans hk)), fun hk => (F15.out ((upd_ne (by decide)).symm.trans hk)), fun hk => (F16.out ((upd_ne (by decide)).symm.trans hk)), fun _ => rfl, fun _ => rfl, fun hk => (F19.out ((upd_ne (by decide)).symm.trans hk)), fun hk => (let ⟨b, e, hl, c, hB⟩ := (F20.out ((upd_ne (by decide)).symm.trans hk)); ⟨b, e, hl, c, hB.stay hb⟩), fun hk => (let ⟨h20, b, e, hl, hB⟩ := (F21.out ((upd_ne (by decide)).symm.trans hk)); ⟨(upd_ne (by decide)).trans h20, b, e, hl, hB.stay hb⟩)⟩
  · rintro L A X ⟨v3, v7, v8, v9, v10, v11, v12, v13, v14, v15, v16, v17, v18, v19, v20, v21, v22, v23, v24, v25, v26, rfl, hw, f0, f1, f2, f3, f4, f5, f6, f7, f8, f9, f10, f11, f12, f13, f14, f15, f16, f17, f18, f19, f20, f21⟩ hL hdep K hK
    simp at hdep
    have d15 : L 15 = true := by first | exact hdep | exact hdep.1 | exact hdep.2 | exact hdep.2.1 | exact hdep.2.2 | exact hdep.2.2.1 | exact hdep.2.2.2
    have d18 : L 18 = true := by first | exact hdep | exact hdep.1 | exact hdep.2 | exact hdep.2.1 | exact hdep.2.2 | exact hdep.2.2.1 | exact hdep.2.2.2
    have e15 := (f15 d15); subst e15
    have e18 := (f18 d18); subst e18
    clear hdep
    have F0 := Lib.hid f0
    have F1 := Lib.hid f1
    have F2 := Lib.hid f2
    have F3 := Lib.hid f3
    have F4 := Lib.hid f4
    have F5 := Lib.hid f5
    have F6 := Lib.hid f6
    have F7 := Lib.hid f7
    have F8 := Lib.hid f8
    have F9 := Lib.hid f9
    have F10 := Lib.hid f10
    have F11 := Lib.hid f11
    have F12 := Lib.hid f12
    have F13 := Lib.hid f13
    have F14 := Lib.hid f14
    have F15 := Lib.hid f15
    have F16 := Lib.hid f16
    have F17 := Lib.hid f17
    have F18 := Lib.hid f18
    have F19 := Lib.hid f19
    have F20 := Lib.hid f20
    have F21 := Lib.hid f21
    have HW := Lib.hid hw
    clear hw f0 f1 f2 f3 f4 f5 f6 f7 f8 f9 f10 f11 f12 f13 f14 f15 f16 f17 f18 f19 f20 f21
    go_simp
    refine hK.out _ _ ?_
    exact ⟨_, _, _, _, _, _, _, _, _, _, _, _, _, _, _, _, _, _, _, _, _, rfl, HW.out, fun hk => (F0.out ((upd_ne (by decide)).symm.trans hk)), fun hk => (F1.out ((upd_ne (by decide)).symm.trans hk)), fun hk => (F2.out ((upd_ne (by decide)).symm.trans hk)), fun hk => (F3.out ((upd_ne (by decide)).symm.trans hk)), fun hk => (F4.out ((upd_ne (by decide)).symm.trans hk)), fun hk => (F5.out ((upd_ne (by decide)).symm.trans hk)), fun hk => (F6.out ((upd_ne (by decide)).symm.trans hk)), fun hk => (F7.out ((upd_ne (by decide)).symm.trans hk)), fun hk => (F8.out ((upd_ne (by decide)).symm.trans hk)), fun hk => (F9.out ((upd_ne (by decide)).symm.trans hk)), fun hk => (F10.out ((upd_ne (by decide)).symm.trans hk)), fun hk => (F11.out ((upd_ne (by decide)).symm.trans hk)), fun hk => (F12.out ((upd_ne (by decide)).symm.trans hk)), fun hk => (F13.out ((upd_ne (by decide)).symm.trans hk)), fun hk => (F14.out ((upd_ne (by decide)).symm.trans hk)), fun _ => rfl, fun hk => (F16.out ((upd_ne (by decide)).symm.trans hk)), fun hk => (F17.out ((upd_ne (by decide)).symm.trans hk)), fun _ => rfl, fun _ => rfl, fun hk => (F20.out ((upd_ne (by decide)).symm.trans hk)), fun hk => (let ⟨h20, b, e, hl, hB⟩ := (F21.out ((upd_ne (by decide)).symm.trans hk)); ⟨(upd_ne (by decide)).trans h20, b, e, hl, hB⟩)⟩
  · rintro L A X ⟨v3, v7, v8, v9, v10, v11, v12, v13, v14, v15, v16, v17, v18, v19, v20, v21, v22, v23, v24, v25, v26, rfl, hw, f0, f1, f2, f3, f4, f5, f6, f7, f8, f9, f10, f11, f12, f13, f14, f15, f16, f17, f18, f19, f20, f21⟩ hL hdep K hK
    clear hdep
    have F0 := Lib.hid f0
    have F1 := Lib.hid f1
    have F2 := Lib.hid f2
    have F3 := Lib.hid f3
    have F4 := Lib.hid f4
    have F5 := Lib.hid f5
    have F6 := Lib.hid f6
    have F7 := Lib.hid f7
    have F8 := Lib.hid f8
    have F9 := Lib.hid f9
    have F10 := Lib.hid f10
    have F11 := Lib.hid f11
    have F12 := Lib.hid f12
    have F13 := Lib.hid f13
    have F14 := Lib.hid f14
    have F15 := Lib.hid f15
    have F16 := Lib.hid f16
    have F17 := Lib.hid f17
    have F18 := Lib.hid f18
    have F19 := Lib.hid f19
    have F20 := Lib.hid f20
    have F21 := Lib.hid f21
    have HW := Lib.hid hw
    clear hw f0 f1 f2 f3 f4 f5 f6 f7 f8 f9 f10 f11 f12 f13 f14 f15 f16 f17 f18 f19 f20 f21
    go_simp
    refine hK.out _ _ ?_
    exact ⟨_, _, _, _, _, _, _, _, _, _, _, _, _, _, _, _, _, _, _, _, _, rfl, Kn.past HW.out _, fun hk => (F0.out ((upd_ne (by decide)).symm.trans hk)), fun hk => (F1.out ((upd_ne (by decide)).symm.trans hk)), fun hk => (F2.out ((upd_ne (by decide)).symm.trans hk)), fun hk => (F3.out ((upd_ne (by decide)).symm.trans hk)), fun hk => (F4.out ((upd_ne (by decide)).symm.trans hk)), fun hk => (F5.out ((upd_ne (by decide)).symm.trans hk)), fun hk => (F6.out ((upd_ne (by decide)).symm.trans hk)), fun hk => (F7.out ((upd_ne (by decide)).symm.trans hk)), fun hk => (F8.out ((upd_ne (by decide)).symm.trans hk)), fun hk => (F9.out ((upd_ne (by decide)).symm.trans hk)), fun hk => (F10.out ((upd_ne (by decide)).symm.trans hk)), fun hk => (F11.out ((upd_ne (by decide)).symm.trans hk)), fun hk => (F12.out ((upd_ne (by decide)).symm.trans hk)), fun hk => (F13.out ((upd_ne (by decide)).symm.trans hk)), fun hk => (F14.out ((upd_ne (by decide)).symm.trans hk)), fun hk => (F15.out ((upd_ne (by decide)).symm.trans hk)), fun hk => (F16.out ((upd_ne (by decide)).symm.trans hk)), fun hk => (F17.out ((upd_ne (by decide)).symm.trans hk)), fun hk => (F18.out ((upd_ne (by decide)).symm.trans hk)), fun hk => (F19.out ((upd_ne (by decide)).symm.trans hk)), fun _ => ⟨_, rfl, Kn.lt1 HW.out, _, Box.fresh _ _ _⟩, fun hk => (absurd (hL.symm.trans ((F21.out ((upd_ne (by decide)).symm.trans hk))).1) (by decide))⟩
  · rintro L A X ⟨v3, v7, v8, v9, v10, v11, v12, v13, v14, v15, v16, v17, v18, v19, v20, v21, v22, v23, v24, v25, v26, rfl, hw, f0, f1, f2, f3, f4, f5, f6, f7, f8, f9, f10, f11, f12, f13, f14, f15, f16, f17, f18, f19, f20, f21⟩ hL hdep K hK
    simp at hdep
    have d20 : L 20 = true := by first | exact hdep | exact hdep.1 | exact hdep.2 | exact hdep.2.1 | exact hdep.2.2 | exact hdep.2.2.1 | exact hdep.2.2.2 | exact hdep.2.2.2.1 | exact hdep.2.2.2.2 | exact hdep.2.2.2.2.1 | exact hdep.2.2.2.2.2 | exact hdep.2.2.2.2.2.1 | exact hdep.2.2.2.2.2.2
    have d19 : L 19 = true := by first | exact hdep | exact hdep.1 | exact hdep.2 | exact hdep.2.1 | exact hdep.2.2 | exact hdep.2.2.1 | exact hdep.2.2.2 | exact hdep.2.2.2.1 | exact hdep.2.2.2.2 | exact hdep.2.2.2.2.1 | exact hdep.2.2.2.2.2 | exact hdep.2.2.2.2.2.1 | exact hdep.2.2.2.2.2.2
    obtain ⟨b20, rfl, hl20, cc20, hB20⟩ := (f20 d20)
    have e19 := (f19 d19); subst e19
    clear hdep
    have t0 := hB20.thaw 0
    have c := hB20.cell 0 _ rfl
    have HB := Lib.hid hB20
    have HD := Lib.hid d20
    clear hB20
    have F0 := Lib.hid f0
    have F1 := Lib.hid f1
    have F2 := Lib.hid f2
    have F3 := Lib.hid f3
    have F4 := Lib.hid f4
    have F5 := Lib.hid f5
    have F6 := Lib.hid f6
    have F7 := Lib.hid f7
    have F8 := Lib.hid f8
    have F9 := Lib.hid f9
    have F10 := Lib.hid f10
    have F11 := Lib.hid f11
    have F12 := Lib.hid f12
    have F13 := Lib.hid f13
    have F14 := Lib.hid f14
    have F15 := Lib.hid f15
    have F16 := Lib.hid f16
    have F17 := Lib.hid f17
    have F18 := Lib.hid f18
    have F19 := Lib.hid f19
    have F20 := Lib.hid f20
    have F21 := Lib.hid f21
    have HW := Lib.hid hw
    clear hw f0 f1 f2 f3 f4 f5 f6 f7 f8 f9 f10 f11 f12 f13 f14 f15 f16 f17 f18 f19 f20 f21
    go_simp
    refine hK.out _ _ ?_
    have hB2 := HB.out.put 0 (.string (S1 ++ ⟨#[32]⟩ ++ S2 ++ ⟨#[32]⟩ ++ S3 ++ ⟨#[32]⟩ ++ S4))
    have hw2 : Kn w [(w.heap.size, 37, x.cs s q)] _ := Kn.put HW.out (p := ⟨b20, 0, none⟩) (Nat.le_of_lt hl20) (fun t ht => by simp at ht; subst ht; show w.heap.size ≠ b20; omega) (.string (S1 ++ ⟨#[32]⟩ ++ S2 ++ ⟨#[32]⟩ ++ S3 ++ ⟨#[32]⟩ ++ S4))
    exact ⟨_, _, _, _, _, _, _, _, _, _, _, _, _, _, _, _, _, _, _, _, _, rfl, hw2, fun hk => (F0.out ((upd_ne (by decide)).symm.trans hk)), fun hk => (F1.out ((upd_ne (by decide)).symm.trans hk)), fun hk => (F2.out ((upd_ne (by decide)).symm.trans hk)), fun hk => (F3.out ((upd_ne (by decide)).symm.trans hk)), fun hk => (F4.out ((upd_ne (by decide)).symm.trans hk)), fun hk => (F5.out ((upd_ne (by decide)).symm.trans hk)), fun hk => (F6.out ((upd_ne (by decide)).symm.trans hk)), fun hk => (F7.out ((upd_ne (by decide)).symm.trans hk)), fun hk => (F8.out ((upd_ne (by decide)).symm.trans hk)), fun hk => (F9.out ((upd_ne (by decide)).symm.trans hk)), fun hk => (F10.out ((upd_ne (by decide)).symm.trans hk)), fun hk => (F11.out ((upd_ne (by decide)).symm.trans hk)), fun hk => (F12.out ((upd_ne (by decide)).symm.trans hk)), fun hk => (F13.out ((upd_ne (by decide)).symm.trans hk)), fun hk => (F14.out ((upd_ne (by decide)).symm.trans hk)), fun hk => (F15.out ((upd_ne (by decide)).symm.trans hk)), fun hk => (F16.out ((upd_ne (by decide)).symm.trans hk)), fun hk => (F17.out ((upd_ne (by decide)).symm.trans hk)), fun hk => (F18.out ((upd_ne (by decide)).symm.trans hk)), fun _ => rfl, fun hk => ⟨b20, rfl, hl20, _, hB2⟩, fun _ => ⟨(upd_ne (by decide)).trans HD.out, b20, rfl, hl20, hB2⟩⟩
  · rintro L A X ⟨v3, v7, v8, v9, v10, v11, v12, v13, v14, v15, v16, v17, v18, v19, v20, v21, v22, v23, v24, v25, v26, rfl, hw, f0, f1, f2, f3, f4, f5, f6, f7, f8, f9, f10, f11, f12, f13, f14, f15, f16, f17, f18, f19, f20, f21⟩ hall
    obtain ⟨-, b, rfl, hl, hB⟩ := f21 (hall 21 (by decide))
    have HX1 := Lib.hid (show Kn w [(w.heap.size, 37, x.cs s q)] X from hw)
    have hlX := Kn.lt1 HX1.out
    have hbX := hB.lt
    rw [HE.out] at hB
    obtain ⟨hd, hhd⟩ : ∃ hd, headL x = hd := ⟨_, rfl⟩
    rw [hhd] at hB
    have hz : hd.length ≤ 16 := hhd ▸ head_len x
    have HHD := Lib.hid hhd
    clear f0 f1 f2 f3 f4 f5 f6 f7 f8 f9 f10 f11 f12 f13 f14 f15 f16 f17 f18 f19 f20 f21 hall hw hkd hkd' wk HKN y1 y2 y3 y4 y5 y6 HE G1 G2 G3 HK0 hhd hY
    obtain ⟨W0, hW0⟩ : ∃ W0, (X.alloc (.cells (x.cs s q) 37)).alloc (.cells #[.slice (some ⟨X.heap.size, 0, none⟩) 1 1] 25) = W0 := ⟨_, rfl⟩
    have hsz : W0.heap.size = X.heap.size + 2 := by rw [← hW0]; simp
    have hB0 : Below X.heap.size X W0 := by rw [← hW0]; exact ((Below.refl _ X).alloc (Nat.le_refl _) _).alloc (by simp) _
    have bT : Box W0 X.heap.size 37 (x.cs s q) := by rw [← hW0]; exact (Box.fresh X 37 (x.cs s q)).past _
    have bS : Box W0 (X.heap.size + 1) 25 #[.slice (some ⟨X.heap.size, 0, none⟩) 1 1] := by
      rw [← hW0]
      have := Box.fresh (X.alloc (.cells (x.cs s q) 37)) 25 #[.slice (some ⟨X.heap.size, 0, none⟩) 1 1]
      simp only [World.size_alloc] at this
      exact this
    have hwW : Below w.heap.size w W0 := (HX1.out.stay hB0).1
    have HSQ := Lib.hid (iter_stopsB 8 (by omega) (X.heap.size + 1) X.heap.size 0 1 b [x] (by simp) W0 _ _ (hB.stay hB0) (bS.cell 0 _ rfl) (tb_one (HR.out.stay hwW) (HQ.out.stay hwW) bT))
    have bZ := Lib.hid (And.intro (hB.stay hB0) ((HX1.out.stay hB0).box (b := w.heap.size) (T := 37) (vs := x.cs s q) (by simp)))
    have HWW := Lib.hid hwW
    have HRK := Lib.hid (show (rts [x]).length ≤ 4 by rw [rts_ok HX.out]; exact okT_slots HX.out)
    have c0 := HX1.out.c (b := w.heap.size) (T := 37) (vs := x.cs s q) (by simp) 0 _ rfl
    have c1 := HX1.out.c (b := w.heap.size) (T := 37) (vs := x.cs s q) (by simp) 1 _ rfl
    have c2 := HX1.out.c (b := w.heap.size) (T := 37) (vs := x.cs s q) (by simp) 2 _ rfl
    have c3 := HX1.out.c (b := w.heap.size) (T := 37) (vs := x.cs s q) (by simp) 3 _ rfl
    have c4 := HX1.out.c (b := w.heap.size) (T := 37) (vs := x.cs s q) (by simp) 4 _ rfl
    have c5 := HX1.out.c (b := w.heap.size) (T := 37) (vs := x.cs s q) (by simp) 5 _ rfl
    have c6 := HX1.out.c (b := w.heap.size) (T := 37) (vs := x.cs s q) (by simp) 6 _ rfl
    have c7 := HX1.out.c (b := w.heap.size) (T := 37) (vs := x.cs s q) (by simp) 7 _ rfl
    clear hB0 bT bS hwW hB
    gi_wp2_with fail
    refine ⟨trivial, ?_⟩
    refine (callsIn_wide.2 (rightsOf_any _ _ _ _)).mono ?_
    rintro e w' ⟨rfl, rfl⟩
    clear c0 c1 c2 c3 c4 c5 c6 c7
    gi_wp2_with fail
    refine wpIn_rangeFunc_ownH rfl (by omega) (gf := 100) (lb := #[.pointer (some ⟨X.heap.size + 1, 0, none⟩)]) rfl trivial (enters_of Tryd.func100 (by kernel_rfl) rfl)
      HSQ.out KpB.trans (fun W l o o' hl _ _ _ => KpB.put W l o' hl) (Below.refl _ _) (fun _ => rfl)
      (fun pre W => (Box W b 9 #[.string (B (hd ++ slotsL pre))] ∧ Box W w.heap.size 37 (x.cs s q)) ∧ Below w.heap.size W0 W)
      (fun c pre W => False)
      (OwnFrom.and (OwnFrom.and (Own.from (own_str _ _ _) _) (Own.from (box_own _ _ _) _)) (ownFrom_below (by omega) (by omega)))
      (fun c => ownFrom_pure _ _)
      ⟨⟨by simpa [slotsL] using bZ.out.1, bZ.out.2⟩, Below.refl _ _⟩
      (fun r a' W => ∃ Bx, w.heap.size < Bx ∧ Bx ≠ b ∧ Box W Bx 44 r.cs ∧ a' = { tmps := #[x.val s q, .pointer (some ⟨w.heap.size, 0, none⟩), .string ⟨#[]⟩, .pointer (some ⟨b, 0, none⟩), .pointer (some ⟨Bx, 0, none⟩), undef, undef, v7, v8, v9, v10, v11, v12, v13, v14, v15, v16, v17, v18, v19, v20, v21, v22, v23, v24, v25, v26, x.val s q, .slice (some ⟨X.heap.size, 0, none⟩) 1 1, .func (.func 100) #[] #[.pointer (some ⟨X.heap.size + 1, 0, none⟩)], rgt r.t r.v r.r r.w r.k, undef, undef, undef, undef, undef, undef, undef, undef, undef, undef, undef, undef, undef, undef, undef, undef, undef, undef, undef, undef, undef, undef, undef, undef, undef, undef, undef, undef], defers := [] })
      (fun r a' _ X Y row hs hg hr => by obtain ⟨Bx, e1, e2, e3, e4⟩ := hs; exact ⟨Bx, e1, e2, box_own Bx 44 r.cs () X Y row e3 hg (fun r e => (hr r e).2), e4⟩)
      ?assign ?body ?done ?stop
    case assign =>
      rintro l pre r W K ⟨⟨bZ1, bX1⟩, hB1⟩ hK
      have HI := Lib.hid (And.intro (And.intro bZ1 bX1) hB1)
      clear bZ1 bX1 hB1
      gi_wp2
      exact hK _ _ (keeps_of ((Below.refl _ _).alloc (Nat.le_refl _) _)) (KpB.below ((Below.refl _ W).alloc (Nat.le_refl _) _)) ⟨⟨HI.out.1.1.past _, HI.out.1.2.past _⟩, HI.out.2.alloc (by have := HI.out.2.size; omega) _⟩ ⟨W.heap.size, HI.out.1.2.lt, (by have := HI.out.1.1.lt; omega), Box.fresh W 44 _, rfl⟩
    case body =>
      rintro l pre r a' W hl2 ⟨rr, hr⟩ ⟨⟨bZ1, bX1⟩, hB1⟩ ⟨Bx, hBx, hne, bX, rfl⟩ hlt
      have d0 := bX.cell 0 _ rfl
      have d1 := bX.cell 1 _ rfl
      have d2 := bX.cell 2 _ rfl
      have d3 := bX.cell 3 _ rfl
      have d4 := bX.cell 4 _ rfl
      have zk := slotsL_len pre
      have zk2 : pre.length ≤ 4 := by have := HRK.out; omega
      obtain ⟨pr, hpre⟩ : ∃ pr, B (hd ++ slotsL pre) = pr := ⟨_, rfl⟩
      have zp : pr.size ≤ 50 := by rw [← hpre, B_size]; simp only [List.length_append]; omega
      obtain ⟨tr, htr⟩ : ∃ tr, txtR r.t r.v r.r r.w r.k = tr := ⟨_, rfl⟩
      have zt : tr.size ≤ 6 := by rw [← htr]; exact txtR_len r
      have y1 : ¬ 9223372036854775807 < 1 + tr.size := by omega
      have y2 : ¬ 9223372036854775807 < pr.size + (1 + tr.size) := by omega
      have HF := Lib.hid (show pr ++ (⟨#[32]⟩ ++ tr) = B (hd ++ slotsL (pre ++ [r])) by
        rw [← hpre, ← htr, txtR_B, show (⟨#[32]⟩ : ByteArray) = B [32] from rfl]
        simp only [B_app, slotsL, List.flatMap_append, List.flatMap_cons, List.flatMap_nil, List.append_nil, List.append_assoc, List.cons_append, List.nil_append])
      rw [hpre] at bZ1
      have HT := Lib.hid htr
      have e0 := bZ1.cell 0 _ rfl
      have f0 := bZ1.thaw 0
      have HI := Lib.hid (And.intro (And.intro bZ1 bX1) hB1)
      clear zk zk2 hpre zp zt htr bZ1 bX1 hB1 hr hlt bX hBx hne
      gi_wp2_with fail
      gi_region_with (refine ⟨trivial, ?_⟩; refine (CallsIn.inRound l (callsIn_wide.2 (implRText_val HT.out _))).mono ?_; rintro e y ⟨rfl, hb⟩; have bZ2 := HI.out.1.1.drew.stay hb; have e0' := bZ2.cell 0 _ rfl; have f0' := bZ2.thaw 0; have HB := Lib.hid (((Below.refl _ W).drew).trans hb); have HZ2 := Lib.hid bZ2; clear hb bZ2)
      all_goals
        gi_wp2
        refine ⟨(keeps_of HB.out).trans ((KeepsOthers.setCell _ _ _).from _), (KpB.below HB.out).trans (KpB.set _ _), ⟨⟨?_, (HI.out.1.2.stay HB.out).other (p := ⟨b, 0, none⟩) (by show w.heap.size ≠ b; omega) _⟩, (goB2 HI.out.2 (by have := HI.out.2.size; omega) HB.out).setCell (p := ⟨b, 0, none⟩) (Nat.le_of_lt hl) _⟩⟩
        rw [← HF.out]
        simpa using HZ2.out.put 0 (.string (pr ++ (⟨#[32]⟩ ++ tr)))
    case done =>
      rintro D zs W hD rfl ⟨⟨bZ1, bX1⟩, hB1⟩ hK
      rw [rts_ok HX.out] at bZ1
      obtain ⟨h2, hh2⟩ : ∃ h2, hd ++ slotsL x.slots = h2 := ⟨_, rfl⟩
      have hz2 : h2.length ≤ 50 := by rw [← hh2, List.length_append]; have := slotsL_len x.slots; have := okT_slots HX.out; omega
      rw [hh2] at bZ1
      have HH2 := Lib.hid hh2
      have hlW : b ≠ D := fun e => by
        subst e
        rw [show W.heap[b]? = _ from bZ1] at hK
        cases hK
      have HI := Lib.hid (And.intro (And.intro bZ1 bX1) (And.intro hB1 hK))
      obtain ⟨hq3, hqr⟩ := x_okT_queue HX.out
      have HQB := Lib.hid hqr
      have qn := HQ.out.len
      have c0 := bX1.cell 0 _ rfl
      have c5 : W.cell? ⟨w.heap.size, 6, none⟩ = some (.slice q.a q.n q.c) := bX1.cell 6 _ rfl
      rw [qn] at c5
      clear qn
      clear bZ1 bX1 hB1 hK hh2 hqr hz HSQ bZ
      gi_wp2
      gi_loopw [39] (fun i wr => ∃ k : Nat, k ≤ x.queue.length ∧ i = .int .i64 k ∧ (Box wr b 9 #[.string (B (h2 ++ queueL (x.queue.take k)))] ∧ Box wr w.heap.size 37 (x.cs s q)) ∧ Below w.heap.size W0 wr ∧ wr.heap[D]? = some (.deferred (some []))) (fun i _ => x.queue.length - (intOf i).toNat)
      case atStart => exact ⟨0, by omega, rfl, ⟨by simpa [queueL] using HI.out.1.1, HI.out.1.2⟩, HI.out.2.1, HI.out.2.2⟩
      case round =>
        clear c0 c5 HI
        obtain ⟨k, hk, rfl, ⟨bZ1, bX1⟩, hB1, hK⟩ := hrel
        have c0 := bX1.cell 0 _ rfl
        have c6 := bX1.cell 7 _ rfl
        have HQ2 := Lib.hid (HQ.out.stay (HWW.out.trans hB1))
        have HTP2 := Lib.hid (HTP.out.stay (HWW.out.trans hB1))
        by_cases hlt : k < x.queue.length
        · have hlt' : (k : Int) < (x.queue.length : Int) := by omega
          obtain ⟨g, o, ea, d0⟩ := HQ2.out.at hlt
          have OR := Lib.hid (HQB.out (x.queue[k]) (List.getElem_mem hlt))
          have HTK := Lib.hid (queueL_more x.queue k hlt)
          obtain ⟨r, hr⟩ : ∃ r, x.queue[k] = r := ⟨_, rfl⟩
          rw [hr] at d0 OR HTK
          have zk := queueL_len (x.queue.take k)
          have zk2 : (x.queue.take k).length = k := by rw [List.length_take]; omega
          obtain ⟨pr, hpre⟩ : ∃ pr, B (h2 ++ queueL (x.queue.take k)) = pr := ⟨_, rfl⟩
          have zp : pr.size ≤ 90 := by rw [← hpre, B_size]; simp only [List.length_append]; omega
          obtain ⟨tr, htr⟩ : ∃ tr, B (decL r) = tr := ⟨_, rfl⟩
          have zt : tr.size ≤ 2 := by rw [← htr]; exact dec_len r
          have y1 : ¬ 9223372036854775807 < 2 + tr.size := by omega
          have y2 : ¬ 9223372036854775807 < pr.size + (2 + tr.size) := by omega
          have HF := Lib.hid (show pr ++ (⟨#[32, 60]⟩ ++ tr) = B (h2 ++ queueL (x.queue.take (k + 1))) by
            rw [← hpre, ← htr, HTK.out, show (⟨#[32, 60]⟩ : ByteArray) = B [32, 60] from rfl]
            simp only [B_app, List.append_assoc, List.cons_append, List.nil_append])
          have HT := Lib.hid (show ∀ y, Below wr.heap.size wr y → Calls Tryd.prog 48 #[.int .i64 r] y fun e w' => e = .returned (.string tr) ∧ Below y.heap.size y w' from fun y h => itoa_val htr _ (HTP2.out.stay h) (by have := OR.out; omega))
          rw [hpre] at bZ1
          have e0 := bZ1.cell 0 _ rfl
          have f0 := bZ1.thaw 0
          have HI := Lib.hid (And.intro (And.intro bZ1 bX1) (And.intro hB1 hK))
          have BZ := Lib.hid bZ1
          clear zk zk2 hpre zp zt htr hr bZ1 bX1 hB1 hK
          gi_wp2_with fail
          clear ea
          refine wpIn_region_steps (by kernel_rfl) (by kernel_rfl) (by kernel_rfl) (TP8 w X wr x s q b D pr tr v7 v8 v9 v10 v11 v12 v13 v14 v15 v16 v17 v18 v19 v20 v21 v22 v23 v24 v25 v26 g o k r) ?_ ⟨?_, ?_, ?_, ?_, ?_, ?_, trivial⟩ ?_
          · exact ⟨_, _, _, _, _, _, rfl, (fun _ => (Below.refl _ _).drew), fun h => absurd h (by decide), fun h => absurd h (by decide), fun h => absurd h (by decide), fun h => absurd h (by decide), fun h => absurd h (by decide), fun h => absurd h (by decide)⟩
          · rintro L A Z ⟨v43, v44, v45, v46, v47, v48, rfl, hw, f0, f1, f2, f3, f4, f5⟩ hL hdep K hK
            clear hdep
            have h5 : L 5 = false := by
              cases h5 : L 5 with
              | false => rfl
              | true => exact absurd (hL.symm.trans (f5 h5).1) (by decide)
            have hz0 := hw h5
            have bb := BZ.out.stay hz0
            have c := bb.cell 0 _ rfl
            clear bb hz0
            have F0 := Lib.hid f0
            have F1 := Lib.hid f1
            have F2 := Lib.hid f2
            have F3 := Lib.hid f3
            have F4 := Lib.hid f4
            have F5 := Lib.hid f5
            have HW := Lib.hid hw
            clear hw f0 f1 f2 f3 f4 f5
            go_simp
            refine hK.out _ _ ?_
            exact ⟨_, _, _, _, _, _, rfl, (fun h => HW.out ((upd_ne (by decide)).symm.trans h)), fun _ => rfl, fun hk => (F1.out ((upd_ne (by decide)).symm.trans hk)), fun hk => (F2.out ((upd_ne (by decide)).symm.trans hk)), fun hk => (F3.out ((upd_ne (by decide)).symm.trans hk)), fun hk => (F4.out ((upd_ne (by decide)).symm.trans hk)), fun hk => (let ⟨h0, h2, z, hz, e⟩ := (F5.out ((upd_ne (by decide)).symm.trans hk)); ⟨upd_mono h0, upd_mono h2, z, hz, e⟩)⟩
          · rintro L A Z ⟨v43, v44, v45, v46, v47, v48, rfl, hw, f0, f1, f2, f3, f4, f5⟩ hL hdep K hK
            clear hdep
            have F0 := Lib.hid f0
            have F1 := Lib.hid f1
            have F2 := Lib.hid f2
            have F3 := Lib.hid f3
            have F4 := Lib.hid f4
            have F5 := Lib.hid f5
            have HW := Lib.hid hw
            clear hw f0 f1 f2 f3 f4 f5
            go_simp
            refine hK.out _ _ ?_
            exact ⟨_, _, _, _, _, _, rfl, (fun h => HW.out ((upd_ne (by decide)).symm.trans h)), fun hk => (F0.out ((upd_ne (by decide)).symm.trans hk)), fun _ => rfl, fun hk => (F2.out ((upd_ne (by decide)).symm.trans hk)), fun hk => (F3.out ((upd_ne (by decide)).symm.trans hk)), fun hk => (F4.out ((upd_ne (by decide)).symm.trans hk)), fun hk => (let ⟨h0, h2, z, hz, e⟩ := (F5.out ((upd_ne (by decide)).symm.trans hk)); ⟨upd_mono h0, upd_mono h2, z, hz, e⟩)⟩
          · rintro L A Z ⟨v43, v44, v45, v46, v47, v48, rfl, hw, f0, f1, f2, f3, f4, f5⟩ hL hdep K hK
            simp at hdep
            have d1 : L 1 = true := by first | exact hdep | exact hdep.1 | exact hdep.2 | exact hdep.2.1 | exact hdep.2.2 | exact hdep.2.2.1 | exact hdep.2.2.2
            have e1 := (f1 d1); subst e1
            clear hdep
            have h5 : L 5 = false := by
              cases h5 : L 5 with
              | false => rfl
              | true => exact absurd (hL.symm.trans (f5 h5).2.1) (by decide)
            have hz0 := hw h5
            have HZ0 := Lib.hid hz0
            clear hz0
            have F0 := Lib.hid f0
            have F1 := Lib.hid f1
            have F2 := Lib.hid f2
            have F3 := Lib.hid f3
            have F4 := Lib.hid f4
            have F5 := Lib.hid f5
            have HW := Lib.hid hw
            clear hw f0 f1 f2 f3 f4 f5
            go_simp
            gi_wp2_with fail
            refine ⟨trivial, ?_⟩
            refine (callsIn_wide.2 (HT.out _ HZ0.out)).mono ?_
            rintro e y ⟨rfl, hb⟩
            go_simp
            refine hK.out _ _ ?_
            exact ⟨_, _, _, _, _, _, rfl, (fun h => ((HW.out ((upd_ne (by decide)).symm.trans h)).trans (hb.mono (HW.out ((upd_ne (by decide)).symm.trans h)).size))), fun hk => (F0.out ((upd_ne (by decide)).symm.trans hk)), fun _ => rfl, fun _ => rfl, fun hk => (F3.out ((upd_ne (by decide)).symm.trans hk)), fun hk => (F4.out ((upd_ne (by decide)).symm.trans hk)), fun hk => (absurd (hL.symm.trans ((F5.out ((upd_ne (by decide)).symm.trans hk))).2.1) (by decide))⟩
          · rintro L A Z ⟨v43, v44, v45, v46, v47, v48, rfl, hw, f0, f1, f2, f3, f4, f5⟩ hL hdep K hK
            simp at hdep
            have d2 : L 2 = true := by first | exact hdep | exact hdep.1 | exact hdep.2 | exact hdep.2.1 | exact hdep.2.2 | exact hdep.2.2.1 | exact hdep.2.2.2
            have e2 := (f2 d2); subst e2
            clear hdep
            have F0 := Lib.hid f0
            have F1 := Lib.hid f1
            have F2 := Lib.hid f2
            have F3 := Lib.hid f3
            have F4 := Lib.hid f4
            have F5 := Lib.hid f5
            have HW := Lib.hid hw
            clear hw f0 f1 f2 f3 f4 f5
            go_simp
            refine hK.out _ _ ?_
            exact ⟨_, _, _, _, _, _, rfl, (fun h => HW.out ((upd_ne (by decide)).symm.trans h)), fun hk => (F0.out ((upd_ne (by decide)).symm.trans hk)), fun hk => (F1.out ((upd_ne (by decide)).symm.trans hk)), fun _ => rfl, fun _ => rfl, fun hk => (F4.out ((upd_ne (by decide)).symm.trans hk)), fun hk => (let ⟨h0, h2, z, hz, e⟩ := (F5.out ((upd_ne (by decide)).symm.trans hk)); ⟨upd_mono h0, upd_mono h2, z, hz, e⟩)⟩
          · rintro L A Z ⟨v43, v44, v45, v46, v47, v48, rfl, hw, f0, f1, f2, f3, f4, f5⟩ hL hdep K hK
            simp at hdep
            have d0 : L 0 = true := by first | exact hdep | exact hdep.1 | exact hdep.2 | exact hdep.2.1 | exact hdep.2.2 | exact hdep.2.2.1 | exact hdep.2.2.2
            have d3 : L 3 = true := by first | exact hdep | exact hdep.1 | exact hdep.2 | exact hdep.2.1 | exact hdep.2.2 | exact hdep.2.2.1 | exact hdep.2.2.2
            have e0 := (f0 d0); subst e0
            have e3 := (f3 d3); subst e3
            clear hdep
            have F0 := Lib.hid f0
            have F1 := Lib.hid f1
            have F2 := Lib.hid f2
            have F3 := Lib.hid f3
            have F4 := Lib.hid f4
            have F5 := Lib.hid f5
            have HW := Lib.hid hw
            clear hw f0 f1 f2 f3 f4 f5
            go_simp
            refine hK.out _ _ ?_
            exact ⟨_, _, _, _, _, _, rfl, (fun h => HW.out ((upd_ne (by decide)).symm.trans h)), fun _ => rfl, fun hk => (F1.out ((upd_ne (by decide)).symm.trans hk)), fun hk => (F2.out ((upd_ne (by decide)).symm.trans hk)), fun _ => rfl, fun _ => rfl, fun hk => (let ⟨h0, h2, z, hz, e⟩ := (F5.out ((upd_ne (by decide)).symm.trans hk)); ⟨upd_mono h0, upd_mono h2, z, hz, e⟩)⟩
          · rintro L A Z ⟨v43, v44, v45, v46, v47, v48, rfl, hw, f0, f1, f2, f3, f4, f5⟩ hL hdep K hK
            simp at hdep
            have d4 : L 4 = true := by first | exact hdep | exact hdep.1 | exact hdep.2 | exact hdep.2.1 | exact hdep.2.2 | exact hdep.2.2.1 | exact hdep.2.2.2 | exact hdep.2.2.2.1 | exact hdep.2.2.2.2 | exact hdep.2.2.2.2.1 | exact hdep.2.2.2.2.2 | exact hdep.2.2.2.2.2.1 | exact hdep.2.2.2.2.2.2
            have d0 : L 0 = true := by first | exact hdep | exact hdep.1 | exact hdep.2 | exact hdep.2.1 | exact hdep.2.2 | exact hdep.2.2.1 | exact hdep.2.2.2 | exact hdep.2.2.2.1 | exact hdep.2.2.2.2 | exact hdep.2.2.2.2.1 | exact hdep.2.2.2.2.2 | exact hdep.2.2.2.2.2.1 | exact hdep.2.2.2.2.2.2
            have d2 : L 2 = true := by first | exact hdep | exact hdep.1 | exact hdep.2 | exact hdep.2.1 | exact hdep.2.2 | exact hdep.2.2.1 | exact hdep.2.2.2 | exact hdep.2.2.2.1 | exact hdep.2.2.2.2 | exact hdep.2.2.2.2.1 | exact hdep.2.2.2.2.2 | exact hdep.2.2.2.2.2.1 | exact hdep.2.2.2.2.2.2
            have e4 := (f4 d4); subst e4
            have e0 := (f0 d0); subst e0
            have e2 := (f2 d2); subst e2
            clear hdep
            have h5 : L 5 = false := hL
            have hz0 := hw h5
            have bb := BZ.out.stay hz0
            have t0 := bb.thaw 0
            have c := bb.cell 0 _ rfl
            have HZ0 := Lib.hid hz0
            have HD0 := Lib.hid d0
            have HD2 := Lib.hid d2
            clear bb hz0
            have F0 := Lib.hid f0
            have F1 := Lib.hid f1
            have F2 := Lib.hid f2
            have F3 := Lib.hid f3
            have F4 := Lib.hid f4
            have F5 := Lib.hid f5
            have HW := Lib.hid hw
            clear hw f0 f1 f2 f3 f4 f5
            go_simp
            refine hK.out _ _ ?_
            exact ⟨_, _, _, _, _, _, rfl, (fun h => absurd ((upd_self L 5).symm.trans h) (by decide)), fun _ => rfl, fun hk => (F1.out ((upd_ne (by decide)).symm.trans hk)), fun _ => rfl, fun hk => (F3.out ((upd_ne (by decide)).symm.trans hk)), fun _ => rfl, fun _ => ⟨upd_mono HD0.out, upd_mono HD2.out, _, HZ0.out, rfl⟩⟩
          · rintro L A Z ⟨v43, v44, v45, v46, v47, v48, rfl, hw, f0, f1, f2, f3, f4, f5⟩ hall
            obtain ⟨_, _, z, hz0, rfl⟩ := f5 (hall 5 (by decide))
            clear f0 f1 f2 f3 f4 f5 hall hw
            have HB := Lib.hid hz0
            clear hz0
            have HZ2 := Lib.hid (HI.out.1.1.stay HB.out)
            gi_wp2
            go_roundw
            case rel =>
              refine ⟨_, _, _, _, _, _, _, _, _, _, _, ⟨k + 1, by omega, ?_, ⟨?_, (HI.out.1.2.stay HB.out).other (p := ⟨b, 0, none⟩) (by show w.heap.size ≠ b; omega) _⟩, (goB2 HI.out.2.1 (by have := HI.out.2.1.size; omega) HB.out).setCell (p := ⟨b, 0, none⟩) (Nat.le_of_lt hl) _, (Below.heap_setCell _ ⟨b, 0, none⟩ _ D (Ne.symm hlW)).trans ((HB.out.block D (Array.getElem?_eq_some_iff.1 HI.out.2.2).1).trans HI.out.2.2)⟩, rfl⟩
              · go_num
              rw [← HF.out]
              simpa using HZ2.out.put 0 (.string (pr ++ (⟨#[32, 60]⟩ ++ tr)))
            case measure => simp [intOf]; omega
        · have hlt' : ¬ (k : Int) < (x.queue.length : Int) := by omega
          have HJ := Lib.hid (show x.queue.take k = x.queue from List.take_of_length_le (by omega))
          rw [HJ.out] at bZ1
          obtain ⟨pr, hpre⟩ : ∃ pr, B (h2 ++ queueL x.queue) = pr := ⟨_, rfl⟩
          have zp : pr.size ≤ 90 := by rw [← hpre, B_size, List.length_append]; have := queueL_len x.queue; omega
          rw [hpre] at bZ1
          have e0 := bZ1.cell 0 _ rfl
          have f0 := bZ1.thaw 0
          by_cases h5 : x.kind = 5
          · have TO := Lib.hid (okT_to HX.out h5)
            have c0' : wr.cell? ⟨w.heap.size, 0, none⟩ = some (.int .i64 5) := by rw [← h5]; exact c0
            obtain ⟨tr, htr⟩ : ∃ tr, B (decL x.to) = tr := ⟨_, rfl⟩
            have zt : tr.size ≤ 2 := by rw [← htr]; exact dec_len _
            have y1 : ¬ 9223372036854775807 < 2 + tr.size := by omega
            have y2 : ¬ 9223372036854775807 < pr.size + (2 + tr.size) := by omega
            have HF := Lib.hid (show ∃ t, pr ++ (⟨#[32, 62]⟩ ++ tr) = B t ∧ t ++ [10] = thingL x by
              refine ⟨h2 ++ queueL x.queue ++ 32 :: 62 :: decL x.to, ?_, ?_⟩
              · rw [← hpre, ← htr, show (⟨#[32, 62]⟩ : ByteArray) = B [32, 62] from rfl]
                simp only [B_app, List.append_assoc, List.cons_append, List.nil_append]
              · rw [thingL_head, if_pos h5, ← HH2.out, HHD.out]
                simp only [List.append_assoc, List.cons_append])
            have HT := Lib.hid (show ∀ y, Below wr.heap.size wr y → Calls Tryd.prog 48 #[.int .i64 x.to] y fun e w' => e = .returned (.string tr) ∧ Below y.heap.size y w' from fun y h => itoa_val htr _ (HTP2.out.stay h) (by have := TO.out; omega))
            have HI := Lib.hid (And.intro (And.intro bZ1 bX1) (And.intro hB1 hK))
            have BZ := Lib.hid bZ1
            have BX := Lib.hid bX1
            clear hpre zp zt htr c0 h5 hlt HJ hk bZ1 bX1 hB1 hK
            gi_wp2_with fail
            refine wpIn_region_steps (by kernel_rfl) (by kernel_rfl) (by kernel_rfl) (TP11 w X wr x s q b D pr tr v7 v8 v9 v10 v11 v12 v13 v14 v15 v16 v17 v18 v19 v20 v21 v22 v23 v24 v25 v26 ) ?_ ⟨?_, ?_, ?_, ?_, ?_, ?_, ?_, trivial⟩ ?_
            · exact ⟨_, _, _, _, _, _, _, _, _, _, _, _, _, _, _, _, _, _, _, _, _, _, _, _, _, _, _, _, _, _, _, _, _, _, _, _, _, _, _, _, _, _, _, _, _, _, rfl, (fun _ => (Below.refl _ _).drew), fun h => absurd h (by decide), fun h => absurd h (by decide), fun h => absurd h (by decide), fun h => absurd h (by decide), fun h => absurd h (by decide), fun h => absurd h (by decide), fun h => absurd h (by decide)⟩
            · rintro L A Z ⟨v6, v7, v8, v9, v10, v11, v12, v13, v14, v15, v16, v17, v18, v19, v20, v21, v22, v23, v24, v25, v26, v27, v28, v29, v36, v37, v38, v39, v40, v41, v42, v43, v44, v45, v46, v47, v48, v49, v50, v51, v52, v53, v54, v55, v56, v57, rfl, hw, f0, f1, f2, f3, f4, f5, f6⟩ hL hdep K hK
              clear hdep
              have h5 : L 6 = false := by
                cases h5 : L 6 with
                | false => rfl
                | true => exact absurd (hL.symm.trans (f6 h5).1) (by decide)
              have hz0 := hw h5
              have bb := BZ.out.stay hz0
              have c := bb.cell 0 _ rfl
              clear bb hz0
              have F0 := Lib.hid f0
              have F1 := Lib.hid f1
              have F2 := Lib.hid f2
              have F3 := Lib.hid f3
              have F4 := Lib.hid f4
              have F5 := Lib.hid f5
              have F6 := Lib.hid f6
              have HW := Lib.hid hw
              clear hw f0 f1 f2 f3 f4 f5 f6
              go_simp
              refine hK.out _ _ ?_
              exact ⟨_, _, _, _, _, _, _, _, _, _, _, _, _, _, _, _, _, _, _, _, _, _, _, _, _, _, _, _, _, _, _, _, _, _, _, _, _, _, _, _, _, _, _, _, _, _, rfl, (fun h => HW.out ((upd_ne (by decide)).symm.trans h)), fun _ => rfl, fun hk => (F1.out ((upd_ne (by decide)).symm.trans hk)), fun hk => (F2.out ((upd_ne (by decide)).symm.trans hk)), fun hk => (F3.out ((upd_ne (by decide)).symm.trans hk)), fun hk => (F4.out ((upd_ne (by decide)).symm.trans hk)), fun hk => (F5.out ((upd_ne (by decide)).symm.trans hk)), fun hk => (let ⟨h0, h2, h3, z, hz, e⟩ := (F6.out ((upd_ne (by decide)).symm.trans hk)); ⟨upd_mono h0, upd_mono h2, upd_mono h3, z, hz, e⟩)⟩
            · rintro L A Z ⟨v6, v7, v8, v9, v10, v11, v12, v13, v14, v15, v16, v17, v18, v19, v20, v21, v22, v23, v24, v25, v26, v27, v28, v29, v36, v37, v38, v39, v40, v41, v42, v43, v44, v45, v46, v47, v48, v49, v50, v51, v52, v53, v54, v55, v56, v57, rfl, hw, f0, f1, f2, f3, f4, f5, f6⟩ hL hdep K hK
              clear hdep
              have F0 := Lib.hid f0
              have F1 := Lib.hid f1
              have F2 := Lib.hid f2
              have F3 := Lib.hid f3
              have F4 := Lib.hid f4
              have F5 := Lib.hid f5
              have F6 := Lib.hid f6
              have HW := Lib.hid hw
              clear hw f0 f1 f2 f3 f4 f5 f6
              go_simp
              refine hK.out _ _ ?_
              exact ⟨_, _, _, _, _, _, _, _, _, _, _, _, _, _, _, _, _, _, _, _, _, _, _, _, _, _, _, _, _, _, _, _, _, _, _, _, _, _, _, _, _, _, _, _, _, _, rfl, (fun h => HW.out ((upd_ne (by decide)).symm.trans h)), fun hk => (F0.out ((upd_ne (by decide)).symm.trans hk)), fun _ => rfl, fun hk => (F2.out ((upd_ne (by decide)).symm.trans hk)), fun hk => (F3.out ((upd_ne (by decide)).symm.trans hk)), fun hk => (F4.out ((upd_ne (by decide)).symm.trans hk)), fun hk => (F5.out ((upd_ne (by decide)).symm.trans hk)), fun hk => (let ⟨h0, h2, h3, z, hz, e⟩ := (F6.out ((upd_ne (by decide)).symm.trans hk)); ⟨upd_mono h0, upd_mono h2, upd_mono h3, z, hz, e⟩)⟩
            · rintro L A Z ⟨v6, v7, v8, v9, v10, v11, v12, v13, v14, v15, v16, v17, v18, v19, v20, v21, v22, v23, v24, v25, v26, v27, v28, v29, v36, v37, v38, v39, v40, v41, v42, v43, v44, v45, v46, v47, v48, v49, v50, v51, v52, v53, v54, v55, v56, v57, rfl, hw, f0, f1, f2, f3, f4, f5, f6⟩ hL hdep K hK
              simp at hdep
              have d1 : L 1 = true := by first | exact hdep | exact hdep.1 | exact hdep.2 | exact hdep.2.1 | exact hdep.2.2 | exact hdep.2.2.1 | exact hdep.2.2.2
              have e1 := (f1 d1); subst e1
              clear hdep
              have h5 : L 6 = false := by
                cases h5 : L 6 with
                | false => rfl
                | true => exact absurd (hL.symm.trans (f6 h5).2.1) (by decide)
              have hz0 := hw h5
              have bb := BX.out.stay hz0
              have c := bb.cell 7 _ rfl
              clear bb hz0
              have F0 := Lib.hid f0
              have F1 := Lib.hid f1
              have F2 := Lib.hid f2
              have F3 := Lib.hid f3
              have F4 := Lib.hid f4
              have F5 := Lib.hid f5
              have F6 := Lib.hid f6
              have HW := Lib.hid hw
              clear hw f0 f1 f2 f3 f4 f5 f6
              go_simp
              refine hK.out _ _ ?_
              exact ⟨_, _, _, _, _, _, _, _, _, _, _, _, _, _, _, _, _, _, _, _, _, _, _, _, _, _, _, _, _, _, _, _, _, _, _, _, _, _, _, _, _, _, _, _, _, _, rfl, (fun h => HW.out ((upd_ne (by decide)).symm.trans h)), fun hk => (F0.out ((upd_ne (by decide)).symm.trans hk)), fun _ => rfl, fun _ => rfl, fun hk => (F3.out ((upd_ne (by decide)).symm.trans hk)), fun hk => (F4.out ((upd_ne (by decide)).symm.trans hk)), fun hk => (F5.out ((upd_ne (by decide)).symm.trans hk)), fun hk => (let ⟨h0, h2, h3, z, hz, e⟩ := (F6.out ((upd_ne (by decide)).symm.trans hk)); ⟨upd_mono h0, upd_mono h2, upd_mono h3, z, hz, e⟩)⟩
            · rintro L A Z ⟨v6, v7, v8, v9, v10, v11, v12, v13, v14, v15, v16, v17, v18, v19, v20, v21, v22, v23, v24, v25, v26, v27, v28, v29, v36, v37, v38, v39, v40, v41, v42, v43, v44, v45, v46, v47, v48, v49, v50, v51, v52, v53, v54, v55, v56, v57, rfl, hw, f0, f1, f2, f3, f4, f5, f6⟩ hL hdep K hK
              simp at hdep
              have d2 : L 2 = true := by first | exact hdep | exact hdep.1 | exact hdep.2 | exact hdep.2.1 | exact hdep.2.2 | exact hdep.2.2.1 | exact hdep.2.2.2
              have e2 := (f2 d2); subst e2
              clear hdep
              have h5 : L 6 = false := by
                cases h5 : L 6 with
                | false => rfl
                | true => exact absurd (hL.symm.trans (f6 h5).2.2.1) (by decide)
              have hz0 := hw h5
              have HZ0 := Lib.hid hz0
              clear hz0
              have F0 := Lib.hid f0
              have F1 := Lib.hid f1
              have F2 := Lib.hid f2
              have F3 := Lib.hid f3
              have F4 := Lib.hid f4
              have F5 := Lib.hid f5
              have F6 := Lib.hid f6
              have HW := Lib.hid hw
              clear hw f0 f1 f2 f3 f4 f5 f6
              go_simp
              gi_wp2_with fail
              refine ⟨trivial, ?_⟩
              refine (callsIn_wide.2 (HT.out _ HZ0.out)).mono ?_
              rintro e y ⟨rfl, hb⟩
              go_simp
              refine hK.out _ _ ?_
              exact ⟨_, _, _, _, _, _, _, _, _, _, _, _, _, _, _, _, _, _, _, _, _, _, _, _, _, _, _, _, _, _, _, _, _, _, _, _, _, _, _, _, _, _, _, _, _, _, rfl, (fun h => ((HW.out ((upd_ne (by decide)).symm.trans h)).trans (hb.mono (HW.out ((upd_ne (by decide)).symm.trans h)).size))), fun hk => (F0.out ((upd_ne (by decide)).symm.trans hk)), fun hk => (F1.out ((upd_ne (by decide)).symm.trans hk)), fun _ => rfl, fun _ => rfl, fun hk => (F4.out ((upd_ne (by decide)).symm.trans hk)), fun hk => (F5.out ((upd_ne (by decide)).symm.trans hk)), fun hk => (absurd (hL.symm.trans ((F6.out ((upd_ne (by decide)).symm.trans hk))).2.2.1) (by decide))⟩
            · rintro L A Z ⟨v6, v7, v8, v9, v10, v11, v12, v13, v14, v15, v16, v17, v18, v19, v20, v21, v22, v23, v24, v25, v26, v27, v28, v29, v36, v37, v38, v39, v40, v41, v42, v43, v44, v45, v46, v47, v48, v49, v50, v51, v52, v53, v54, v55, v56, v57, rfl, hw, f0, f1, f2, f3, f4, f5, f6⟩ hL hdep K hK
              simp at hdep
              have d3 : L 3 = true := by first | exact hdep | exact hdep.1 | exact hdep.2 | exact hdep.2.1 | exact hdep.2.2 | exact hdep.2.2.1 | exact hdep.2.2.2
              have e3 := (f3 d3); subst e3
              clear hdep
              have F0 := Lib.hid f0
              have F1 := Lib.hid f1
              have F2 := Lib.hid f2
              have F3 := Lib.hid f3
              have F4 := Lib.hid f4
              have F5 := Lib.hid f5
              have F6 := Lib.hid f6
              have HW := Lib.hid hw
              clear hw f0 f1 f2 f3 f4 f5 f6
              go_simp
              refine hK.out _ _ ?_
              exact ⟨_, _, _, _, _, _, _, _, _, _, _, _, _, _, _, _, _, _, _, _, _, _, _, _, _, _, _, _, _, _, _, _, _, _, _, _, _, _, _, _, _, _, _, _, _, _, rfl, (fun h => HW.out ((upd_ne (by decide)).symm.trans h)), fun hk => (F0.out ((upd_ne (by decide)).symm.trans hk)), fun hk => (F1.out ((upd_ne (by decide)).symm.trans hk)), fun hk => (F2.out ((upd_ne (by decide)).symm.trans hk)), fun _ => rfl, fun _ => rfl, fun hk => (F5.out ((upd_ne (by decide)).symm.trans hk)), fun hk => (let ⟨h0, h2, h3, z, hz, e⟩ := (F6.out ((upd_ne (by decide)).symm.trans hk)); ⟨upd_mono h0, upd_mono h2, upd_mono h3, z, hz, e⟩)⟩
            · rintro L A Z ⟨v6, v7, v8, v9, v10, v11, v12, v13, v14, v15, v16, v17, v18, v19, v20, v21, v22, v23, v24, v25, v26, v27, v28, v29, v36, v37, v38, v39, v40, v41, v42, v43, v44, v45, v46, v47, v48, v49, v50, v51, v52, v53, v54, v55, v56, v57, rfl, hw, f0, f1, f2, f3, f4, f5, f6⟩ hL hdep K hK
              simp at hdep
              have d0 : L 0 = true := by first | exact hdep | exact hdep.1 | exact hdep.2 | exact hdep.2.1 | exact hdep.2.2 | exact hdep.2.2.1 | exact hdep.2.2.2
              have d4 : L 4 = true := by first | exact hdep | exact hdep.1 | exact hdep.2 | exact hdep.2.1 | exact hdep.2.2 | exact hdep.2.2.1 | exact hdep.2.2.2
              have e0 := (f0 d0); subst e0
              have e4 := (f4 d4); subst e4
              clear hdep
              have F0 := Lib.hid f0
              have F1 := Lib.hid f1
              have F2 := Lib.hid f2
              have F3 := Lib.hid f3
              have F4 := Lib.hid f4
              have F5 := Lib.hid f5
              have F6 := Lib.hid f6
              have HW := Lib.hid hw
              clear hw f0 f1 f2 f3 f4 f5 f6
              go_simp
              refine hK.out _ _ ?_
              exact ⟨_, _, _, _, _, _, _, _, _, _, _, _, _, _, _, _, _, _, _, _, _, _, _, _, _, _, _, _, _, _, _, _, _, _, _, _, _, _, _, _, _, _, _, _, _, _, rfl, (fun h => HW.out ((upd_ne (by decide)).symm.trans h)), fun _ => rfl, fun hk => (F1.out ((upd_ne (by decide)).symm.trans hk)), fun hk => (F2.out ((upd_ne (by decide)).symm.trans hk)), fun hk => (F3.out ((upd_ne (by decide)).symm.trans hk)), fun _ => rfl, fun _ => rfl, fun hk => (let ⟨h0, h2, h3, z, hz, e⟩ := (F6.out ((upd_ne (by decide)).symm.trans hk)); ⟨upd_mono h0, upd_mono h2, upd_mono h3, z, hz, e⟩)⟩
            · rintro L A Z ⟨v6, v7, v8, v9, v10, v11, v12, v13, v14, v15, v16, v17, v18, v19, v20, v21, v22, v23, v24, v25, v26, v27, v28, v29, v36, v37, v38, v39, v40, v41, v42, v43, v44, v45, v46, v47, v48, v49, v50, v51, v52, v53, v54, v55, v56, v57, rfl, hw, f0, f1, f2, f3, f4, f5, f6⟩ hL hdep K hK
              simp at hdep
              have d5 : L 5 = true := by first | exact hdep | exact hdep.1 | exact hdep.2 | exact hdep.2.1 | exact hdep.2.2 | exact hdep.2.2.1 | exact hdep.2.2.2 | exact hdep.2.2.2.1 | exact hdep.2.2.2.2 | exact hdep.2.2.2.2.1 | exact hdep.2.2.2.2.2 | exact hdep.2.2.2.2.2.1 | exact hdep.2.2.2.2.2.2 | exact hdep.2.2.2.2.2.2.1 | exact hdep.2.2.2.2.2.2.2
              have d0 : L 0 = true := by first | exact hdep | exact hdep.1 | exact hdep.2 | exact hdep.2.1 | exact hdep.2.2 | exact hdep.2.2.1 | exact hdep.2.2.2 | exact hdep.2.2.2.1 | exact hdep.2.2.2.2 | exact hdep.2.2.2.2.1 | exact hdep.2.2.2.2.2 | exact hdep.2.2.2.2.2.1 | exact hdep.2.2.2.2.2.2 | exact hdep.2.2.2.2.2.2.1 | exact hdep.2.2.2.2.2.2.2
              have d2 : L 2 = true := by first | exact hdep | exact hdep.1 | exact hdep.2 | exact hdep.2.1 | exact hdep.2.2 | exact hdep.2.2.1 | exact hdep.2.2.2 | exact hdep.2.2.2.1 | exact hdep.2.2.2.2 | exact hdep.2.2.2.2.1 | exact hdep.2.2.2.2.2 | exact hdep.2.2.2.2.2.1 | exact hdep.2.2.2.2.2.2 | exact hdep.2.2.2.2.2.2.1 | exact hdep.2.2.2.2.2.2.2
              have d3 : L 3 = true := by first | exact hdep | exact hdep.1 | exact hdep.2 | exact hdep.2.1 | exact hdep.2.2 | exact hdep.2.2.1 | exact hdep.2.2.2 | exact hdep.2.2.2.1 | exact hdep.2.2.2.2 | exact hdep.2.2.2.2.1 | exact hdep.2.2.2.2.2 | exact hdep.2.2.2.2.2.1 | exact hdep.2.2.2.2.2.2 | exact hdep.2.2.2.2.2.2.1 | exact hdep.2.2.2.2.2.2.2
              have e5 := (f5 d5); subst e5
              have e0 := (f0 d0); subst e0
              have e2 := (f2 d2); subst e2
              have e3 := (f3 d3); subst e3
              clear hdep
              have h5 : L 6 = false := hL
              have hz0 := hw h5
              have bb := BZ.out.stay hz0
              have t0 := bb.thaw 0
              have c := bb.cell 0 _ rfl
              have HZ0 := Lib.hid hz0
              have HD0 := Lib.hid d0
              have HD2 := Lib.hid d2
              have HD3 := Lib.hid d3
              clear bb hz0
              have F0 := Lib.hid f0
              have F1 := Lib.hid f1
              have F2 := Lib.hid f2
              have F3 := Lib.hid f3
              have F4 := Lib.hid f4
              have F5 := Lib.hid f5
              have F6 := Lib.hid f6
              have HW := Lib.hid hw
              clear hw f0 f1 f2 f3 f4 f5 f6
              go_simp
              refine hK.out _ _ ?_
              exact ⟨_, _, _, _, _, _, _, _, _, _, _, _, _, _, _, _, _, _, _, _, _, _, _, _, _, _, _, _, _, _, _, _, _, _, _, _, _, _, _, _, _, _, _, _, _, _, rfl, (fun h => absurd ((upd_self L 6).symm.trans h) (by decide)), fun _ => rfl, fun hk => (F1.out ((upd_ne (by decide)).symm.trans hk)), fun _ => rfl, fun _ => rfl, fun hk => (F4.out ((upd_ne (by decide)).symm.trans hk)), fun _ => rfl, fun _ => ⟨upd_mono HD0.out, upd_mono HD2.out, upd_mono HD3.out, _, HZ0.out, rfl⟩⟩
            · rintro L A Z ⟨v6, v7, v8, v9, v10, v11, v12, v13, v14, v15, v16, v17, v18, v19, v20, v21, v22, v23, v24, v25, v26, v27, v28, v29, v36, v37, v38, v39, v40, v41, v42, v43, v44, v45, v46, v47, v48, v49, v50, v51, v52, v53, v54, v55, v56, v57, rfl, hw, f0, f1, f2, f3, f4, f5, f6⟩ hall
              obtain ⟨_, _, _, z, hz0, rfl⟩ := f6 (hall 6 (by decide))
              clear f0 f1 f2 f3 f4 f5 f6 hall hw
              have HB := Lib.hid hz0
              clear hz0
              obtain ⟨t, ht1, ht2⟩ := HF.out
              have hZ3 := (HI.out.1.1.stay HB.out).put 0 (.string (pr ++ (⟨#[32, 62]⟩ ++ tr)))
              have e9 := hZ3.cell 0 _ rfl
              have HK3 := Lib.hid (show (z.setCell ⟨b, 0, none⟩ (.string (pr ++ (⟨#[32, 62]⟩ ++ tr)))).heap[D]? = some (.deferred (some [])) from (Below.heap_setCell _ ⟨b, 0, none⟩ _ D (Ne.symm hlW)).trans ((HB.out.block D (Array.getElem?_eq_some_iff.1 HI.out.2.2).1).trans HI.out.2.2))
              have HBB := Lib.hid ((goB2 HI.out.2.1 (by have := HI.out.2.1.size; omega) HB.out).setCell (p := ⟨b, 0, none⟩) (Nat.le_of_lt hl) (.string (pr ++ (⟨#[32, 62]⟩ ++ tr))))
              rw [ht1] at e9 HK3 HBB
              rw [ht1]
              have HT2 := Lib.hid ht2
              clear hZ3 ht1 ht2
              gi_wp2
              refine ⟨by simp, .inl ⟨_, _, rfl, run_takeDeferred HK3.out, ?_⟩⟩
              refine ⟨.string (B t), ?_, ⟨t, rfl, HT2.out, HWW.out.trans <| HBB.out.trans (belowK_b (w := w) (Nat.le_refl _) _ D _ _ (by omega) HK3.out rfl rfl)⟩⟩
              simp [results, Tryd.results49, go_sem]
          · have h5' : (x.kind == 5) = false := by simpa using h5
            have HF := Lib.hid (show ∃ t, pr = B t ∧ t ++ [10] = thingL x by
              refine ⟨h2 ++ queueL x.queue, hpre.symm, ?_⟩
              rw [thingL_head, if_neg h5, ← HH2.out, HHD.out]
              simp only [List.append_assoc, List.nil_append])
            have HBB := Lib.hid hB1
            have HK3 := Lib.hid hK
            clear hpre zp h5 hlt HJ hk hB1 hK bZ1 bX1
            obtain ⟨t, ht1, ht2⟩ := HF.out
            rw [ht1] at e0
            have HT2 := Lib.hid ht2
            clear ht1 ht2 HF
            gi_wp2
            refine ⟨by simp, .inl ⟨_, _, rfl, run_takeDeferred HK3.out, ?_⟩⟩
            refine ⟨.string (B t), ?_, ⟨t, rfl, HT2.out, HWW.out.trans <| HBB.out.trans (belowK_b (w := w) (Nat.le_refl _) _ D _ _ (by omega) HK3.out rfl rfl)⟩⟩
            simp [results, Tryd.results49, go_sem]
    case stop =>
      rintro D c pre W hD hpre h
      exact h.elim
end Go.Proofs.YtpahahonopiblaaDoor

namespace Go.Proofs.YtpahahonopiblaaDoor
open Go.RowKit
set_option linter.unusedVariables false
set_option maxRecDepth 100000

/-- A thing's line, without its end. -/
def lineL (x : T8) : List UInt8 := (thingL x).dropLast
theorem lineL_of {x : T8} {t : List UInt8} (h : t ++ [10] = thingL x) : t = lineL x := by unfold lineL; rw [← h]; simp
theorem lineL_end {x : T8} : lineL x ++ [10] = thingL x := by
  unfold lineL
  rw [thingL_head, ← List.append_assoc, List.dropLast_concat]
theorem lineL_len {x : T8} (h : okT x = true) : (B (lineL x)).size ≤ 62 := by
  rw [B_size]; unfold lineL; have := thing_len h; rw [List.length_dropLast]; omega
theorem thingText_val {x : T8} {s q : Sl} {tr : ByteArray} (hv : B (lineL x) = tr) (w : World) (hx : okT x = true) (hR : HasR w s x.slots) (hQ : HasQ w q x.queue) (hf : KF w) (htp : TP w) :
    Calls Tryd.prog 49 #[x.val s q] w fun e w' => e = .returned (.string tr) ∧ Below w.heap.size w w' :=
  (thingText_any x s q w hx hR hQ hf htp).mono fun e w' ⟨t, h1, h2, h3⟩ => ⟨by rw [h1, ← hv, lineL_of h2], h3⟩

set_option maxHeartbeats 8000000 in
theorem implTabText_any (l : List T8) (s : Sl) (w : World) (ht : HasT w s l) (hf : KF w) (htp : TP w) (hz : l.length ≤ 1048576) :
    Calls Tryd.prog 16 #[.slice s.a s.n s.c] w fun e w' => e = .returned (.string (textV l)) ∧ Below w.heap.size w w' := by
  have HT := Lib.hid ht
  have HF := Lib.hid hf
  have HTP := Lib.hid htp
  have SN := Lib.hid ht.1
  clear ht hf htp
  cases h1 : tabOk l
  · have H1 := Lib.hid (implTabOk_val h1 w HT.out HF.out hz)
    have HV := Lib.hid (show textV l = ⟨#[]⟩ by simp [textV, h1])
    clear h1
    go_enter Tryd.func16, Tryd.ntmps16
    go_wp2_with fail
    refine H1.out.mono ?_
    rintro e y1 ⟨rfl, hb⟩
    have HK1 := Lib.hid (Kn.start hb)
    clear hb
    go_wp2
    go_ret
    exact ⟨by rw [HV.out]; rfl, HK1.out.1⟩
  have H1 := Lib.hid (implTabOk_val h1 w HT.out HF.out hz)
  have HOK := Lib.hid (tab_all h1)
  have h8 := (tabOk_len h1).2
  have HV := Lib.hid (show textV l = B (tabL 0 l) by simp [textV, h1])
  clear h1
  go_enter Tryd.func16, Tryd.ntmps16
  go_wp2_with fail
  refine H1.out.mono ?_
  rintro e y1 ⟨rfl, hb⟩
  have HK1 := Lib.hid (Kn.start hb)
  have sn := SN.out
  clear hb H1
  go_wp2
  go_loopw [3, 11] (fun v i wr => ∃ k : Nat, k ≤ l.length ∧ i = .int .i64 k ∧ v = .string (B (tabL 0 (l.take k))) ∧ Kn w [] wr) (fun _ i _ => l.length - (intOf i).toNat)
  case atStart => exact ⟨0, by omega, rfl, by simp [tabL]; rfl, HK1.out⟩
  case round =>
    clear HK1
    obtain ⟨k, hk, rfl, rfl, K2⟩ := hrel
    by_cases hlt : k < l.length
    · have hlt' : (k : Int) < (l.length : Int) := by omega
      obtain ⟨b, o, ea, hTb⟩ := (HT.out.stay K2.1).ne2 hlt
      obtain ⟨ss, qs, hR, hQ, hA⟩ := hTb k hlt
      have OX := Lib.hid (HOK.out l[k] (List.getElem_mem hlt))
      have HTK := Lib.hid (tab_more1 l k hlt)
      have zk := tab_size (l := l.take k) (fun x hx => HOK.out x (List.mem_of_mem_take hx)) 0
      have zk2 : (l.take k).length = k := by rw [List.length_take]; omega
      obtain ⟨x, hx⟩ : ∃ x, l[k] = x := ⟨_, rfl⟩
      rw [hx] at hR hQ hA OX HTK
      have c0 : wr.cell? ⟨b, o + k * 8, none⟩ = some (.int .i64 x.kind) := hA 0 _ rfl
      have c1 := hA 1 _ rfl
      have c2 := hA 2 _ rfl
      have c3 := hA 3 _ rfl
      have c4 := hA 4 _ rfl
      have c5 := hA 5 _ rfl
      have c6 := hA 6 _ rfl
      have c7 := hA 7 _ rfl
      obtain ⟨pre, hpre⟩ : ∃ pre, B (tabL 0 (l.take k)) = pre := ⟨_, rfl⟩
      have zp : pre.size ≤ 6000 := by rw [← hpre, B_size]; omega
      obtain ⟨td, htd⟩ : ∃ td, B (decL ((k : Int) + 1)) = td := ⟨_, rfl⟩
      have zd : td.size ≤ 2 := by rw [← htd]; exact dec_len _
      obtain ⟨tr, htr⟩ : ∃ tr, B (lineL x) = tr := ⟨_, rfl⟩
      have zt : tr.size ≤ 62 := by rw [← htr]; exact lineL_len OX.out
      have y1 : ¬ 9223372036854775807 < td.size + 1 := by omega
      have y2 : ¬ 9223372036854775807 < td.size + 1 + tr.size := by omega
      have y3 : ¬ 9223372036854775807 < td.size + 1 + tr.size + 1 := by omega
      have y4 : ¬ 9223372036854775807 < pre.size + (td.size + 1 + tr.size + 1) := by omega
      have HFT := Lib.hid (show pre ++ (td ++ ⟨#[32]⟩ ++ tr ++ ⟨#[10]⟩) = B (tabL 0 (l.take (k + 1))) by
        rw [← hpre, ← htd, ← htr, HTK.out, ← lineL_end, show (⟨#[32]⟩ : ByteArray) = B [32] from rfl, show (⟨#[10]⟩ : ByteArray) = B [10] from rfl]
        simp only [B_app, List.append_assoc, List.cons_append, List.nil_append])
      have wk1 : wrap64 ((k : Int) + 1) = (k : Int) + 1 := by unfold wrap64; omega
      have wk2 : IntKind.i64.wrap ((k : Int) + 1) = (k : Int) + 1 := IntWalk.i64_in _ (by omega)
      have wk3 : IntKind.i64.wrap (k : Int) = (k : Int) := IntWalk.i64_in _ (by omega)
      have K3 : Kn wr [(wr.heap.size, 37, x.cs ss qs)] (wr.alloc (.cells (x.cs ss qs) 37)) := (Kn.refl (w := wr)).new 37 (x.cs ss qs)
      have G1 := Lib.hid (show ∀ zz : Wd (Kn wr [(wr.heap.size, 37, x.cs ss qs)]), Calls Tryd.prog 48 #[.int .i64 ((k : Int) + 1)] zz.w fun e w' => e = .returned (.string td) ∧ Below zz.w.heap.size zz.w w' from fun zz => itoa_val htd zz.w ((HTP.out.stay K2.1).stay zz.ok.1) (dec1 (by omega)))
      have G2 := Lib.hid (show ∀ zz : Wd (Kn wr [(wr.heap.size, 37, x.cs ss qs)]), Calls Tryd.prog 49 #[x.val ss qs] zz.w fun e w' => e = .returned (.string tr) ∧ Below zz.w.heap.size zz.w w' from fun zz => thingText_val htr zz.w OX.out (hR.stay zz.ok.1) (hQ.stay zz.ok.1) ((HF.out.stay K2.1).stay zz.ok.1) ((HTP.out.stay K2.1).stay zz.ok.1))
      have HK2 := Lib.hid K2
      rw [hpre]
      clear zk zk2 hpre zp zt zd htr htd hx hR hQ hA hTb K2
      go_wp2_with fail
      clear c0 c1 c2 c3 c4 c5 c6 c7
      have cc0 := fun zz : Wd (Kn wr [(wr.heap.size, 37, x.cs ss qs)]) => zz.ok.c (b := wr.heap.size) (T := 37) (vs := x.cs ss qs) (by simp) 0 _ rfl
      have cc1 := fun zz : Wd (Kn wr [(wr.heap.size, 37, x.cs ss qs)]) => zz.ok.c (b := wr.heap.size) (T := 37) (vs := x.cs ss qs) (by simp) 1 _ rfl
      have cc2 := fun zz : Wd (Kn wr [(wr.heap.size, 37, x.cs ss qs)]) => zz.ok.c (b := wr.heap.size) (T := 37) (vs := x.cs ss qs) (by simp) 2 _ rfl
      have cc3 := fun zz : Wd (Kn wr [(wr.heap.size, 37, x.cs ss qs)]) => zz.ok.c (b := wr.heap.size) (T := 37) (vs := x.cs ss qs) (by simp) 3 _ rfl
      have cc4 := fun zz : Wd (Kn wr [(wr.heap.size, 37, x.cs ss qs)]) => zz.ok.c (b := wr.heap.size) (T := 37) (vs := x.cs ss qs) (by simp) 4 _ rfl
      have cc5 := fun zz : Wd (Kn wr [(wr.heap.size, 37, x.cs ss qs)]) => zz.ok.c (b := wr.heap.size) (T := 37) (vs := x.cs ss qs) (by simp) 5 _ rfl
      have cc6 := fun zz : Wd (Kn wr [(wr.heap.size, 37, x.cs ss qs)]) => zz.ok.c (b := wr.heap.size) (T := 37) (vs := x.cs ss qs) (by simp) 6 _ rfl
      have cc7 := fun zz : Wd (Kn wr [(wr.heap.size, 37, x.cs ss qs)]) => zz.ok.c (b := wr.heap.size) (T := 37) (vs := x.cs ss qs) (by simp) 7 _ rfl
      have ne : Nonempty (Wd (Kn wr [(wr.heap.size, 37, x.cs ss qs)])) := ⟨⟨_, K3.drew⟩⟩
      refine wp_region_quiet (C := fun y => ∃ t : Wd (Kn wr [(wr.heap.size, 37, x.cs ss qs)]), y = t.w) (by kernel_rfl) (by kernel_rfl) ⟨⟨_, K3.drew⟩, rfl⟩ ?_
      show wpQuiet _ _ _ _ [_, _, _, _, _, _, _, _, _, _, _] _
      repeat (first | go_big_quiet_step ((first | (go_at_call 48; with_reducible exact inCls Kn.stay (G1.out _)) | (go_at_call 49; with_reducible exact inCls Kn.stay (G2.out _)))) | quiet_step ((first | (go_at_call 48; with_reducible exact inCls Kn.stay (G1.out _)) | (go_at_call 49; with_reducible exact inCls Kn.stay (G2.out _)))))
      refine wpQuiet_nil ?_
      rintro y9 ⟨⟨_, K9⟩, rfl⟩
      have HK9 := Lib.hid (HK2.out.stay K9.1)
      clear ne cc0 cc1 cc2 cc3 cc4 cc5 cc6 cc7 K9 K3
      go_wp2
      go_roundw
      case rel => exact ⟨k + 1, by omega, by go_num, by rw [← HFT.out], HK9.out⟩
      case measure => simp [intOf]; omega
    · have hlt' : ¬ (k : Int) < (l.length : Int) := by omega
      have HJ := Lib.hid (show l.take k = l from List.take_of_length_le (by omega))
      have HK2 := Lib.hid K2
      rw [HJ.out]
      clear K2
      go_wp2
      go_ret
      exact ⟨by rw [HV.out]; rfl, HK2.out.1⟩
theorem implTabText_val {l : List T8} {s : Sl} {t : ByteArray} (h : textV l = t) (w : World) (ht : HasT w s l) (hf : KF w) (htp : TP w) (hz : l.length ≤ 1048576) :
    Calls Tryd.prog 16 #[.slice s.a s.n s.c] w fun e w' => e = .returned (.string t) ∧ Below w.heap.size w w' := by
  subst h; exact implTabText_any l s w ht hf htp hz
theorem specTabText_val {l : List T8} {s : Sl} {t : ByteArray} (h : textV l = t) (w : World) (ht : HasT w s l) (hz : l.length ≤ 1048576) (hzs : ∀ i (h : i < l.length), l[i].slots.length ≤ 1048576) :
    Calls Tryd.prog 14 #[.slice s.a s.n s.c] w fun e w' => e = .returned (.string t) ∧ Below w.heap.size w w' := by
  subst h; exact specTabText_any l s w ht hz hzs
end Go.Proofs.YtpahahonopiblaaDoor

namespace Go.Proofs.YtpahahonopiblaaDoor
open Go.RowKit Go.ChangeShapes
set_option maxRecDepth 100000
theorem tp_of {W : World} {rest : List (String × DataW Unit)} (h : laidMet Tryd.prog (("internal/strconv.uint64pow10", Rows.laid_internal_strconv_uint64pow10) :: rest) W) : TP W :=
  Lib.tabIs_of_head (g := 1) (t := 164) (e := 156) (n := 20) (by kernel_rfl) (by kernel_rfl) Tryd.underlying164 Tryd.underlying156 (by kernel_rfl) (by kernel_rfl) h
end Go.Proofs.YtpahahonopiblaaDoor
