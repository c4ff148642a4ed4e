/-
  The text of a table, as plain data: one to one, and as many lines as things.
-/
import Derived.Test.YtpahahonopiblaaDoorTabOk
import Derived.Test.YtpahahonopiblaaDoorTNew
import Derived.Test.YtpahahonopiblaaDoorRigW
namespace Go.Proofs.YtpahahonopiblaaDoor
open Go.RowKit
set_option linter.unusedVariables false

/-! The text of a table, as plain data. -/
theorem x_okT_lab {x : T8} (h : okT x = true) : okL x.sec x.vou = true := by
  simp only [okT, okT1, Bool.and_eq_true] at h
  exact h.1.2.1
theorem x_okT_vers {x : T8} (h : okT x = true) : 0 ≤ x.vers ∧ x.vers ≤ 5 := by
  simp only [okT, okT1, Bool.and_eq_true] at h
  simpa [inR] using h.1.2.2.1
theorem x_okT_num {x : T8} (h : okT x = true) : -4 ≤ x.num ∧ x.num ≤ 99 := by
  simp only [okT, okT2, Bool.and_eq_true] at h
  have h2 : leastN x ≤ x.num ∧ x.num ≤ 99 := by simpa [inR] using h.2.1.1
  unfold leastN at h2
  split at h2 <;> omega
theorem x_okT_queue {x : T8} (h : okT x = true) : x.queue.length ≤ 3 ∧ ∀ q ∈ x.queue, 0 ≤ q ∧ q ≤ 99 := by
  simp only [okT, okT1, Bool.and_eq_true] at h
  refine ⟨?_, fun q hq => ?_⟩
  · have := h.1.2.2.2; simp at this; omega
  · have := List.all_eq_true.1 h.2.2.1 q hq
    simpa [inR] using this
theorem x_ok_slots {x : T8} (h : okT x = true) : x.slots.all R5.ok = true := by simp only [okT, Bool.and_eq_true] at h; exact h.2.2.2.1
theorem x_okT_to0 {x : T8} (h : okT x = true) (hk : x.kind ≠ 5) : x.to = 0 := by
  simp only [okT, okT4, Bool.and_eq_true] at h
  have := h.2.2.2.2.2.2
  simp [hk] at this
  exact this
/-- A number in decimals (-9 to 99). -/
def decL (n : Int) : List UInt8 := if n < 0 then [45, (48 + (-n).toNat).toUInt8] else if n < 10 then [(48 + n.toNat).toUInt8] else [(48 + (n / 10).toNat).toUInt8, (48 + (n % 10).toNat).toUInt8]
/-- The name of a kind. -/
def nameL (k : Int) : List UInt8 := if k = 1 then [112, 97, 103, 101] else if k = 2 then [110, 111, 100, 101] else if k = 3 then [114, 117, 110] else if k = 4 then [112, 105, 112, 101] else [103, 97, 116, 101]
def rgtL (r : R5) : List UInt8 := (txtR r.t r.v r.r r.w r.k).data.toList
/-- What comes behind a thing's number. -/
def tailL (x : T8) : List UInt8 := x.slots.flatMap (fun r => 32 :: rgtL r) ++ (x.queue.flatMap (fun q => 32 :: 60 :: decL q) ++ ((if x.kind = 5 then 32 :: 62 :: decL x.to else []) ++ [10]))
def thingL (x : T8) : List UInt8 := nameL x.kind ++ 32 :: (decL x.sec ++ 47 :: decL x.vou) ++ 32 :: (decL x.vers ++ 32 :: (decL x.num ++ tailL x))
/-- The text of things, from a number on. -/
def tabL : Nat → List T8 → List UInt8
  | _, [] => []
  | i, x :: l => decL ((i : Int) + 1) ++ 32 :: (thingL x ++ tabL (i + 1) l)
/-- Words end at a blank or at a line's end. -/
def Wd' (u : List UInt8) : Prop := ∀ c ∈ u, c ≠ 32 ∧ c ≠ 10
def Sep (x : List UInt8) : Prop := ∃ c y, x = c :: y ∧ (c = 32 ∨ c = 10)
theorem word_eq {u v x y : List UInt8} (hu : Wd' u) (hv : Wd' v) (hx : Sep x) (hy : Sep y) (e : u ++ x = v ++ y) : u = v ∧ x = y := by
  induction u generalizing v with
  | nil =>
    cases v with
    | nil => exact ⟨rfl, e⟩
    | cons d v =>
      obtain ⟨c, x', rfl, hc⟩ := hx
      simp at e
      have := hv d (by simp)
      rcases hc with rfl | rfl
      · exact absurd e.1.symm this.1
      · exact absurd e.1.symm this.2
  | cons c u ih =>
    cases v with
    | nil =>
      obtain ⟨d, y', rfl, hd⟩ := hy
      simp at e
      have := hu c (by simp)
      rcases hd with rfl | rfl
      · exact absurd e.1 this.1
      · exact absurd e.1 this.2
    | cons d v =>
      simp only [List.cons_append, List.cons.injEq] at e
      obtain ⟨rfl, e⟩ := e
      obtain ⟨rfl, e2⟩ := ih (fun c hc => hu c (by simp [hc])) (fun c hc => hv c (by simp [hc])) e
      exact ⟨rfl, e2⟩
theorem sep_b (x : List UInt8) : Sep (32 :: x) := ⟨32, x, rfl, .inl rfl⟩
theorem sep_n (x : List UInt8) : Sep (10 :: x) := ⟨10, x, rfl, .inr rfl⟩
theorem dec_word {n : Int} (h : -9 ≤ n ∧ n ≤ 99) : Wd' (decL n) := by
  have key : ∀ k : Fin 109, ((decL ((k.val : Int) - 9)).all fun c => c != 32 && c != 10) = true := by decide +kernel
  have := key ⟨(n + 9).toNat, by omega⟩
  dsimp only at this
  rw [show (((n + 9).toNat : Nat) : Int) - 9 = n by omega] at this
  intro c hc
  have := List.all_eq_true.1 this c hc
  simpa using this
/-- A number read back. -/
def undec (l : List UInt8) : Int := match l with
  | [a] => (a.toNat : Int) - 48
  | [a, b] => if a = 45 then -((b.toNat : Int) - 48) else ((a.toNat : Int) - 48) * 10 + ((b.toNat : Int) - 48)
  | _ => 0
theorem undec_dec {n : Int} (h : -9 ≤ n ∧ n ≤ 99) : undec (decL n) = n := by
  have key : ∀ k : Fin 109, undec (decL ((k.val : Int) - 9)) = (k.val : Int) - 9 := by decide +kernel
  have := key ⟨(n + 9).toNat, by omega⟩
  dsimp only at this
  rwa [show (((n + 9).toNat : Nat) : Int) - 9 = n by omega] at this
theorem dec_inj {m n : Int} (hm : -9 ≤ m ∧ m ≤ 99) (hn : -9 ≤ n ∧ n ≤ 99) (e : decL m = decL n) : m = n := by
  rw [← undec_dec hm, e, undec_dec hn]
theorem name_word (k : Int) : Wd' (nameL k) := by
  unfold nameL
  repeat' split
  all_goals (intro c hc; simp at hc; rcases hc with rfl | rfl | rfl | rfl <;> decide)
theorem name_inj {k m : Int} (hk : inR k 1 5 = true) (hm : inR m 1 5 = true) (e : nameL k = nameL m) : k = m := by
  simp [inR] at hk hm
  have h1 : k = 1 ∨ k = 2 ∨ k = 3 ∨ k = 4 ∨ k = 5 := by omega
  have h2 : m = 1 ∨ m = 2 ∨ m = 3 ∨ m = 4 ∨ m = 5 := by omega
  rcases h1 with rfl | rfl | rfl | rfl | rfl <;> rcases h2 with rfl | rfl | rfl | rfl | rfl <;> first | rfl | (exfalso; revert e; decide)

theorem rgt_inj' {a b : R5} (ha : a.ok = true) (hb : b.ok = true) (e : rgtL a = rgtL b) : a = b := by
  have h1 : txtR a.t a.v a.r a.w a.k = txtR b.t b.v b.r b.w b.k := by
    unfold rgtL at e
    generalize txtR a.t a.v a.r a.w a.k = u at e
    generalize txtR b.t b.v b.r b.w b.k = v at e
    obtain ⟨u⟩ := u
    obtain ⟨v⟩ := v
    simp only [ByteArray.mk.injEq]
    exact Array.toList_inj.1 e
  obtain ⟨r1, r2, r3, r4, r5⟩ := txtR_inj ha hb h1
  obtain ⟨t, v, r, w, k⟩ := a
  obtain ⟨t', v', r', w', k'⟩ := b
  dsimp only at r1 r2 r3 r4 r5
  subst r1 r2 r3 r4 r5
  rfl
theorem rgt_word {a : R5} (ha : a.ok = true) : Wd' (rgtL a) := by
  obtain ⟨t, v, r, w, k⟩ := a
  unfold R5.ok at ha
  dsimp only at ha
  unfold rgtL
  dsimp only
  unfold txtR
  rw [if_pos ha]
  by_cases ht : t = 0
  · rw [if_pos ht]
    intro c hc; simp at hc; subst hc; decide
  · rw [if_neg ht]
    simp only [okR, ht, if_false, Bool.and_eq_true] at ha
    have a1 : 1 ≤ t ∧ t ≤ 8 := by simpa [inR] using ha.1
    have a2 : 0 ≤ v ∧ v ≤ 5 := by simpa [inR] using ha.2.1
    have k1 : ∀ x : Fin 9, (48 + x.val).toUInt8 ≠ 32 ∧ (48 + x.val).toUInt8 ≠ 10 := by decide
    have t1 := k1 ⟨t.toNat, by omega⟩
    have v1 := k1 ⟨v.toNat, by omega⟩
    dsimp only at t1 v1
    intro c hc
    simp only [List.mem_cons, List.not_mem_nil, or_false] at hc
    rcases hc with rfl | rfl | rfl | rfl | rfl | rfl
    · exact t1
    · decide
    · exact v1
    · cases r <;> decide
    · cases w <;> decide
    · cases k <;> decide
/-- Rights one behind the other. -/
theorem slots_inj {s t : List R5} (hs : s.all R5.ok = true) (ht : t.all R5.ok = true) (hl : s.length = t.length) {x y : List UInt8} (hx : Sep x) (hy : Sep y) (e : s.flatMap (fun r => 32 :: rgtL r) ++ x = t.flatMap (fun r => 32 :: rgtL r) ++ y) : s = t ∧ x = y := by
  induction s generalizing t with
  | nil =>
    cases t with
    | nil => exact ⟨rfl, e⟩
    | cons b t => simp at hl
  | cons a s ih =>
    cases t with
    | nil => simp at hl
    | cons b t =>
      simp only [List.all_cons, Bool.and_eq_true] at hs ht
      simp only [List.flatMap_cons, List.cons_append, List.append_assoc, List.cons.injEq, true_and] at e
      have sep : ∀ (z : List R5) (w : List UInt8), Sep w → Sep (z.flatMap (fun r => 32 :: rgtL r) ++ w) := fun z w hw => by
        cases z with
        | nil => exact hw
        | cons c z => exact sep_b _
      obtain ⟨e1, e2⟩ := word_eq (rgt_word hs.1) (rgt_word ht.1) (sep s x hx) (sep t y hy) e
      obtain ⟨e3, e4⟩ := ih hs.2 ht.2 (by simpa using hl) e2
      exact ⟨by rw [rgt_inj' hs.1 ht.1 e1, e3], e4⟩
theorem queue_inj {s t : List Int} (hs : ∀ q ∈ s, 0 ≤ q ∧ q ≤ 99) (ht : ∀ q ∈ t, 0 ≤ q ∧ q ≤ 99) {x y : List UInt8} (e : s.flatMap (fun q => 32 :: 60 :: decL q) ++ 10 :: x = t.flatMap (fun q => 32 :: 60 :: decL q) ++ 10 :: y) : s = t ∧ x = y := by
  induction s generalizing t with
  | nil =>
    cases t with
    | nil => simpa using e
    | cons b t => simp at e
  | cons a s ih =>
    cases t with
    | nil => simp at e
    | cons b t =>
      simp only [List.flatMap_cons, List.cons_append, List.append_assoc, List.cons.injEq, true_and] at e
      have sep : ∀ (z : List Int) (w : List UInt8), Sep (z.flatMap (fun q => 32 :: 60 :: decL q) ++ 10 :: w) := fun z w => by
        cases z with
        | nil => exact sep_n _
        | cons c z => exact sep_b _
      have a1 := hs a (by simp)
      have b1 := ht b (by simp)
      obtain ⟨e1, e2⟩ := word_eq (dec_word (by omega)) (dec_word (by omega)) (sep s x) (sep t y) e
      obtain ⟨e3, e4⟩ := ih (fun q hq => hs q (by simp [hq])) (fun q hq => ht q (by simp [hq])) e2
      exact ⟨by rw [dec_inj (by omega) (by omega) e1, e3], e4⟩
theorem okT_lens {x y : T8} (hx : okT x = true) (hy : okT y = true) (e : x.kind = y.kind) : x.slots.length = y.slots.length := by
  have h1 : okT3 x = true := by simp only [okT, Bool.and_eq_true] at hx; exact hx.2.2.2.2.1
  have h2 : okT3 y = true := by simp only [okT, Bool.and_eq_true] at hy; exact hy.2.2.2.2.1
  unfold okT3 at h1 h2
  rw [e] at h1
  cases hh : hasS y.kind with
  | true =>
    rw [hh] at h1 h2
    simp only [if_true, beq_iff_eq] at h1 h2
    omega
  | false =>
    rw [hh] at h1 h2
    simp only [Bool.false_eq_true, if_false, beq_iff_eq] at h1 h2
    omega
theorem okT_ranges {x : T8} (hx : okT x = true) : inR x.kind 1 5 = true ∧ (0 ≤ x.sec ∧ x.sec ≤ 3) ∧ (0 ≤ x.vou ∧ x.vou ≤ 3) ∧ (0 ≤ x.vers ∧ x.vers ≤ 5) ∧ (-4 ≤ x.num ∧ x.num ≤ 99) := by
  have hl := x_okT_lab hx
  have hv := x_okT_vers hx
  have hn := x_okT_num hx
  have hk : inR x.kind 1 5 = true := by simp only [okT, okT1, Bool.and_eq_true] at hx; exact hx.1.1
  simp only [okL, okN, Bool.and_eq_true] at hl
  simp at hl
  exact ⟨hk, by omega, by omega, hv, hn⟩
theorem lab_word {s v : Int} (hs : 0 ≤ s ∧ s ≤ 3) (hv : 0 ≤ v ∧ v ≤ 3) : Wd' (decL s ++ 47 :: decL v) := by
  intro c hc
  rcases List.mem_append.1 hc with h | h
  · exact dec_word (by omega) c h
  · rcases List.mem_cons.1 h with rfl | h
    · decide
    · exact dec_word (by omega) c h
theorem lab_inj {s v s2 v2 : Int} (hs : 0 ≤ s ∧ s ≤ 3) (hv : 0 ≤ v ∧ v ≤ 3) (hs2 : 0 ≤ s2 ∧ s2 ≤ 3) (hv2 : 0 ≤ v2 ∧ v2 ≤ 3) (e : decL s ++ 47 :: decL v = decL s2 ++ 47 :: decL v2) : s = s2 ∧ v = v2 := by
  have d : ∀ n : Int, 0 ≤ n ∧ n ≤ 3 → decL n = [(48 + n.toNat).toUInt8] := fun n hn => by unfold decL; rw [if_neg (by omega), if_pos (by omega)]
  rw [d s hs, d s2 hs2] at e
  simp only [List.cons_append, List.nil_append, List.cons.injEq, true_and] at e
  refine ⟨?_, dec_inj (by omega) (by omega) e.2⟩
  apply dec_inj (by omega) (by omega)
  rw [d s hs, d s2 hs2, e.1]
theorem tail_sep (x : T8) (y : List UInt8) : Sep (tailL x ++ y) := by
  unfold tailL
  cases x.slots with
  | cons a s => exact sep_b _
  | nil =>
    cases x.queue with
    | cons a s => exact sep_b _
    | nil =>
      simp only [List.flatMap_nil, List.nil_append]
      split
      · exact sep_b _
      · exact sep_n _
theorem okT_q {x : T8} (h : okT x = true) (hk : x.kind ≠ 4) : x.queue = [] := by
  have : okT4 x = true := by simp only [okT, Bool.and_eq_true] at h; exact h.2.2.2.2.2
  simp only [okT4, Bool.and_eq_true] at this
  have := this.1
  simp [hk] at this
  exact this
theorem thing_inj {x y : T8} (hx : okT x = true) (hy : okT y = true) {u v : List UInt8} (e : thingL x ++ u = thingL y ++ v) : x = y ∧ u = v := by
  obtain ⟨x1, x2, x3, x4, x5⟩ := okT_ranges hx
  obtain ⟨y1, y2, y3, y4, y5⟩ := okT_ranges hy
  unfold thingL at e
  simp only [List.append_assoc, List.cons_append] at e
  obtain ⟨e1, e⟩ := word_eq (name_word _) (name_word _) (sep_b _) (sep_b _) e
  simp only [List.cons.injEq, true_and] at e
  rw [show decL x.sec ++ 47 :: (decL x.vou ++ 32 :: (decL x.vers ++ 32 :: (decL x.num ++ (tailL x ++ u)))) = (decL x.sec ++ 47 :: decL x.vou) ++ 32 :: (decL x.vers ++ 32 :: (decL x.num ++ (tailL x ++ u))) by simp, show decL y.sec ++ 47 :: (decL y.vou ++ 32 :: (decL y.vers ++ 32 :: (decL y.num ++ (tailL y ++ v)))) = (decL y.sec ++ 47 :: decL y.vou) ++ 32 :: (decL y.vers ++ 32 :: (decL y.num ++ (tailL y ++ v))) by simp] at e
  obtain ⟨e2, e⟩ := word_eq (lab_word x2 x3) (lab_word y2 y3) (sep_b _) (sep_b _) e
  simp only [List.cons.injEq, true_and] at e
  obtain ⟨e3, e⟩ := word_eq (dec_word (by omega)) (dec_word (by omega)) (sep_b _) (sep_b _) e
  simp only [List.cons.injEq, true_and] at e
  obtain ⟨e4, e⟩ := word_eq (dec_word (by omega)) (dec_word (by omega)) (tail_sep x u) (tail_sep y v) e
  have k := name_inj x1 y1 e1
  obtain ⟨l1, l2⟩ := lab_inj x2 x3 y2 y3 e2
  have v1 := dec_inj (by omega) (by omega) e3
  have n1 := dec_inj (by omega) (by omega) e4
  unfold tailL at e
  simp only [List.append_assoc] at e
  have sp : ∀ (z : T8) (w : List UInt8), Sep (z.queue.flatMap (fun q => 32 :: 60 :: decL q) ++ ((if z.kind = 5 then 32 :: 62 :: decL z.to else []) ++ ([10] ++ w))) := fun z w => by
    cases z.queue with
    | cons a s => exact sep_b _
    | nil =>
      simp only [List.flatMap_nil, List.nil_append]
      split
      · exact sep_b _
      · exact sep_n _
  have a1 : x.slots.all R5.ok = true := x_ok_slots hx
  have a2 : y.slots.all R5.ok = true := x_ok_slots hy
  obtain ⟨s1, e⟩ := slots_inj a1 a2 (okT_lens hx hy k) (sp x u) (sp y v) e
  have fin : x.queue = y.queue ∧ x.to = y.to ∧ u = v := by
    by_cases h5 : x.kind = 5
    · rw [if_pos h5, if_pos (by omega), okT_q hx (by omega), okT_q hy (by omega)] at e
      simp only [List.flatMap_nil, List.nil_append, List.cons_append, List.cons.injEq, true_and] at e
      have t1 := okT_to hx h5
      have t2 := okT_to hy (by omega)
      obtain ⟨e5, e6⟩ := word_eq (dec_word (by omega)) (dec_word (by omega)) (sep_n _) (sep_n _) e
      exact ⟨by rw [okT_q hx (by omega), okT_q hy (by omega)], dec_inj (by omega) (by omega) e5, by simpa using e6⟩
    · rw [if_neg h5, if_neg (by omega)] at e
      simp only [List.nil_append, List.cons_append] at e
      obtain ⟨e5, e6⟩ := queue_inj (x_okT_queue hx).2 (x_okT_queue hy).2 e
      exact ⟨e5, by rw [x_okT_to0 hx h5, x_okT_to0 hy (by omega)], e6⟩
  obtain ⟨f1, f2, f3⟩ := fin
  refine ⟨?_, f3⟩
  obtain ⟨ka, sa, va, ra, na, la, qa, ta⟩ := x
  obtain ⟨kb, sb, vb, rb, nb, lb, qb, tb⟩ := y
  dsimp only at k l1 l2 v1 n1 s1 f1 f2
  subst k l1 l2 v1 n1 s1 f1 f2
  rfl
theorem tab_inj {l m : List T8} (hl : ∀ x ∈ l, okT x = true) (hm : ∀ x ∈ m, okT x = true) (i : Nat) (e : tabL i l = tabL i m) : l = m := by
  induction l generalizing m i with
  | nil =>
    cases m with
    | nil => rfl
    | cons y m => simp [tabL] at e
  | cons x l ih =>
    cases m with
    | nil => simp [tabL] at e
    | cons y m =>
      simp only [tabL] at e
      have e := List.append_cancel_left e
      simp only [List.cons.injEq, true_and] at e
      obtain ⟨e1, e2⟩ := thing_inj (hl x (by simp)) (hm y (by simp)) e
      rw [e1, ih (fun z hz => hl z (by simp [hz])) (fun z hz => hm z (by simp [hz])) _ e2]
theorem tab_app (i : Nat) (l m : List T8) : tabL i (l ++ m) = tabL i l ++ tabL (i + l.length) m := by
  induction l generalizing i with
  | nil => rfl
  | cons x l ih =>
    simp only [List.cons_append, tabL, ih, List.append_assoc, List.length_cons]
    rw [show i + 1 + l.length = i + (l.length + 1) by omega]
/-- Lines are as many as things. -/
theorem cnt_word {u : List UInt8} (h : Wd' u) : u.count 10 = 0 := List.count_eq_zero.2 fun hc => (h 10 hc).2 rfl
theorem cnt_slots {s : List R5} (hs : s.all R5.ok = true) : (s.flatMap (fun r => 32 :: rgtL r)).count 10 = 0 := by
  induction s with
  | nil => rfl
  | cons a s ih =>
    simp only [List.all_cons, Bool.and_eq_true] at hs
    simp only [List.flatMap_cons, List.count_append, List.count_cons, ih hs.2, cnt_word (rgt_word hs.1)]
    decide
theorem cnt_queue {s : List Int} (hs : ∀ q ∈ s, 0 ≤ q ∧ q ≤ 99) : (s.flatMap (fun q => 32 :: 60 :: decL q)).count 10 = 0 := by
  induction s with
  | nil => rfl
  | cons a s ih =>
    have a1 := hs a (by simp)
    simp only [List.flatMap_cons, List.count_append, List.count_cons, ih (fun q hq => hs q (by simp [hq])), cnt_word (dec_word (n := a) (by omega))]
    decide
theorem cnt_thing {x : T8} (h : okT x = true) : (thingL x).count 10 = 1 := by
  obtain ⟨x1, x2, x3, x4, x5⟩ := okT_ranges h
  unfold thingL tailL
  simp only [List.count_append, List.count_cons, cnt_word (name_word _), cnt_word (dec_word (n := x.sec) (by omega)), cnt_word (dec_word (n := x.vou) (by omega)), cnt_word (dec_word (n := x.vers) (by omega)), cnt_word (dec_word (n := x.num) (by omega)), cnt_slots (x_ok_slots h), cnt_queue (x_okT_queue h).2]
  by_cases h5 : x.kind = 5
  · have t1 := okT_to h h5
    rw [if_pos h5]
    simp only [List.count_cons, cnt_word (dec_word (n := x.to) (by omega))]
    decide
  · rw [if_neg h5]
    decide
theorem cnt_tab {l : List T8} (hl : ∀ x ∈ l, okT x = true) (i : Nat) (hi : i + l.length ≤ 90) : (tabL i l).count 10 = l.length := by
  induction l generalizing i with
  | nil => rfl
  | cons x l ih =>
    simp only [List.length_cons] at hi
    simp only [tabL, List.count_append, List.count_cons, cnt_word (dec_word (n := (i : Int) + 1) (by omega)), cnt_thing (hl x (by simp)), ih (fun z hz => hl z (by simp [hz])) (i + 1) (by omega), List.length_cons]
    simp
    omega
theorem inR_iff {n a b : Int} : inR n a b = true ↔ a ≤ n ∧ n ≤ b := by simp [inR]
/-- A new thing is one. -/
theorem okT_new {kind sec vou tt : Int} (hl : okL sec vou = true) (hk : 1 ≤ kind ∧ kind ≤ 5) (ht : kind = 5 ∧ 1 ≤ tt ∧ tt ≤ 8 ∨ kind ≠ 5 ∧ tt = 0) : okT (newT kind sec vou tt) = true := by
  have n0 : (⟨0, 0, false, false, false⟩ : R5).ok = true := by decide
  have h : kind = 1 ∨ kind = 2 ∨ kind = 3 ∨ kind = 4 ∨ kind = 5 := by omega
  have o1 : okT1 (newT kind sec vou tt) = true := by
    simp only [okT1, newT, hl, Bool.true_and, List.length_nil]
    rw [show inR kind 1 5 = true from inR_iff.2 hk]
    simp [inR]
  have o2 : okT2 (newT kind sec vou tt) = true := by
    rcases h with rfl | rfl | rfl | rfl | rfl <;> rfl
  have o3 : okT3 (newT kind sec vou tt) = true := by
    rcases h with rfl | rfl | rfl | rfl | rfl <;> rfl
  have o4 : okT4 (newT kind sec vou tt) = true := by
    rcases ht with ⟨rfl, t1, t2⟩ | ⟨h5, rfl⟩
    · simp only [okT4, newT]
      rw [show inR tt 1 8 = true from inR_iff.2 ⟨t1, t2⟩]
      rfl
    · rcases h with rfl | rfl | rfl | rfl | rfl <;> first | rfl | exact absurd rfl h5
  have o5 : (newT kind sec vou tt).slots.all R5.ok = true := by
    unfold newT
    dsimp only
    split
    · decide
    · rfl
  unfold okT
  rw [o1, o2, o3, o4, o5]
  rfl
theorem kindAt_more {l : List T8} {n : Int} (x : T8) (h0 : 0 ≤ n) (h : n < l.length) : kindAt (l ++ [x]) n = kindAt l n := by
  unfold kindAt
  rw [List.getElem?_append_left (by omega)]
theorem versAt_more {l : List T8} {n : Int} (x : T8) (h0 : 0 ≤ n) (h : n < l.length) : versAt (l ++ [x]) n = versAt l n := by
  unfold versAt
  rw [List.getElem?_append_left (by omega)]
theorem gateOk_more {l : List T8} {y : T8} (x : T8) (hy : okT y = true) (h : gateOk l y = true) : gateOk (l ++ [x]) y = true := by
  by_cases h5 : y.kind = 5
  · have t := okT_to hy h5
    unfold gateOk at h ⊢
    simp only [h5, beq_self_eq_true, Bool.true_and, Bool.not_eq_true', Bool.or_eq_false_iff, decide_eq_false_iff_not] at h ⊢
    have hlt : y.to ≤ l.length := by omega
    rw [kindAt_more x (by omega) (by omega)]
    refine ⟨?_, h.2⟩
    simp only [List.length_append, List.length_singleton]
    omega
  · unfold gateOk
    rw [show (y.kind == 5) = false by simpa using h5]
    rfl
theorem rightIn_more {l : List T8} {r : R5} (x : T8) (h : rightIn l r = true) : rightIn (l ++ [x]) r = true := by
  unfold rightIn at h ⊢
  simp only [Bool.not_eq_true', Bool.or_eq_false_iff, decide_eq_false_iff_not, Bool.and_eq_false_imp, decide_eq_true_eq] at h ⊢
  refine ⟨?_, fun h0 => ?_⟩
  · simp only [List.length_append, List.length_singleton]
    omega
  · rw [versAt_more x (by omega) (by omega)]
    exact h.2 h0
theorem rightIn_null (l : List T8) : rightIn l ⟨0, 0, false, false, false⟩ = true := by
  unfold rightIn
  simp
theorem slots_new (l : List T8) (kind sec vou tt : Int) : (newT kind sec vou tt).slots.all (rightIn l) = true := by
  unfold newT
  dsimp only
  split
  · simp [rightIn_null]
  · rfl
theorem tabOk_len {l : List T8} (h : tabOk l = true) : 1 ≤ l.length ∧ l.length ≤ 8 := by
  simp only [tabOk, Bool.and_eq_true] at h
  have := inR_iff.1 h.2
  omega
/-- A table and one thing more. -/
theorem tab_more {l : List T8} {x : T8} (hl : tabOk l = true) (hn : l.length < 8) (hx : okT x = true) (hs : x.slots.all (rightIn (l ++ [x])) = true) : tabOk (l ++ [x]) = gateOk (l ++ [x]) x := by
  have hln := tabOk_len hl
  have hin : inR (l ++ [x]).length 1 8 = true := inR_iff.2 (by simp only [List.length_append, List.length_singleton]; omega)
  have hall : l.all (elemOk (l ++ [x])) = true := by
    simp only [tabOk, Bool.and_eq_true] at hl
    rw [List.all_eq_true] at hl ⊢
    intro y hy
    have := hl.1 y hy
    simp only [elemOk, Bool.and_eq_true] at this ⊢
    refine ⟨this.1, gateOk_more x this.1 this.2.1, ?_⟩
    rw [List.all_eq_true] at this ⊢
    exact fun r hr => rightIn_more x (this.2.2 r hr)
  unfold tabOk
  rw [hin, List.all_append, hall]
  simp [elemOk, hx, hs]
theorem tab_more_plain {l : List T8} {kind sec vou : Int} (hl : tabOk l = true) (hn : l.length < 8) (ho : okL sec vou = true) (hk : 1 ≤ kind ∧ kind ≤ 4) : okT (newT kind sec vou 0) = true ∧ tabOk (l ++ [newT kind sec vou 0]) = true := by
  have hx := okT_new (kind := kind) (tt := 0) ho (by omega) (.inr ⟨by omega, rfl⟩)
  refine ⟨hx, ?_⟩
  rw [tab_more hl hn hx (slots_new _ _ _ _ _)]
  unfold gateOk
  have : ((newT kind sec vou 0).kind == 5) = false := by show (kind == 5) = false; simp; omega
  rw [this]
  rfl
theorem tab_more_gate {l : List T8} {sec vou : Int} {j : Nat} (hl : tabOk l = true) (hn : l.length < 8) (ho : okL sec vou = true) (hj : j < l.length) : okT (newT 5 sec vou ((j : Int) + 1)) = true ∧ tabOk (l ++ [newT 5 sec vou ((j : Int) + 1)]) = (l[j].kind == 1) := by
  have hx := okT_new (kind := 5) (tt := (j : Int) + 1) ho (by omega) (.inl ⟨rfl, by omega, by omega⟩)
  refine ⟨hx, ?_⟩
  rw [tab_more hl hn hx (slots_new _ _ _ _ _)]
  unfold gateOk
  have e1 : (newT 5 sec vou ((j : Int) + 1)).kind = 5 := rfl
  have e2 : (newT 5 sec vou ((j : Int) + 1)).to = (j : Int) + 1 := rfl
  rw [e1, e2]
  have e3 : kindAt (l ++ [newT 5 sec vou ((j : Int) + 1)]) ((j : Int) + 1 - 1) = l[j].kind := by
    rw [kindAt_more _ (by omega) (by omega)]
    exact kindAt_of hj (by omega)
  rw [e3]
  have e4 : decide (((l ++ [newT 5 sec vou ((j : Int) + 1)]).length : Int) < (j : Int) + 1) = false := by
    simp only [List.length_append, List.length_singleton, decide_eq_false_iff_not]
    omega
  rw [e4]
  simp
  cases h : (l[j].kind == 1) <;> simp [bne, h]
/-- The text of a table and a thing more. -/
theorem tab_pre (l : List T8) (x : T8) : ∃ u : List UInt8, tabL 0 (l ++ [x]) = tabL 0 l ++ u ∧ 0 < u.length := by
  refine ⟨tabL (0 + l.length) [x], tab_app 0 l [x], ?_⟩
  simp only [tabL, List.length_append, List.length_cons]
  omega
end Go.Proofs.YtpahahonopiblaaDoor
