/-
  What is told of a call: the model's CheckCall.
-/
import Derived.Test.YtohfincnjhemfaaDoorChF
namespace Go.Proofs.YtohfincnjhemfaaDoor
open Go.RowKit
set_option linter.unusedVariables false
set_option maxRecDepth 100000

theorem l11Check_any (l : List T8) (s : Sl) (c : C5) (w : World) (ht : HasT w s l) (h1 : (tabOk l && isRun l c.r) = true) (h2 : c.ok = true) :
    Calls Tryd.prog 64 #[.slice s.a s.n s.c, .agg #[.int .i64 c.k, .int .i64 c.r, .int .i64 c.a, .int .i64 c.b, .int .i64 c.n]] w fun e w' => e = .returned (.int .i64 (chkV l c)) ∧ Below w.heap.size w w' := by
  rw [chkV_go h1 h2]
  by_cases h3 : c.k = 3
  · rw [if_pos h3, h3]
    exact l11Check_copy l s c.r c.a c.b c.n w
  rw [if_neg h3]
  obtain ⟨k9, -, -, a0, a3⟩ := ok_k h2
  obtain ⟨rl, rs⟩ := run_slots h1
  have hT : tabOk l = true := by simp only [Bool.and_eq_true] at h1; exact h1.1
  have hR : isRun l c.r = true := by simp only [Bool.and_eq_true] at h1; exact h1.2
  have hI : inR c.r 1 l.length = true := by simp only [isRun, Bool.and_eq_true] at hR; exact hR.1
  obtain ⟨jr, hjr, hn⟩ := idx_of hI
  rw [thAt_of hjr hn] at rl rs ⊢
  obtain ⟨b, o, ea, hTb⟩ := ht.ne hjr
  obtain ⟨ss, qs, hSS, -, hA⟩ := hTb jr hjr
  obtain ⟨ja, hja⟩ : ∃ ja : Nat, c.a = ja := ⟨c.a.toNat, by omega⟩
  have hjs : ja < l[jr].slots.length := by omega
  obtain ⟨rb, ro, hsa, hB⟩ := hSS.at hjs
  rw [slotAt_of hjs hja]
  obtain ⟨r1, r2⟩ := rs ja hjs
  have hsn := hSS.len
  rw [rl] at hsn
  obtain ⟨sa, sn, sc⟩ := ss
  dsimp only at hsa hsn
  subst hsa hsn
  have ht' : HasT w ⟨some ⟨b, o, none⟩, l.length, s.c⟩ l := ⟨rfl, by have := ht.2.1; rw [ht.1] at this; exact this, .inr ⟨b, o, rfl, hTb⟩⟩
  have hl8 := (tab_len hT).2
  have ecr : c.r = (jr : Int) + 1 := by omega
  have r1' := R5.bd r1
  obtain ⟨x, hx⟩ : ∃ x, l[jr].slots[ja] = x := ⟨_, rfl⟩
  rw [hx] at hB r1' r2 ⊢
  obtain ⟨rt, rv, rr, rw_, rk⟩ := x
  rw [ht.1, ea, ecr, hja]
  exact l11Check_at l b o s.c c.k jr ja c.b c.n hjr rb ro sc qs rt rv rr rw_ rk w ht' hl8 hT k9 h3 (by omega) hA hB r1'.1 r2
theorem l11Check_val {l : List T8} {s : Sl} {c : C5} {v : Int} (hv : chkV l c = v) (w : World) (ht : HasT w s l) (h1 : (tabOk l && isRun l c.r) = true) (h2 : c.ok = true) :
    Calls Tryd.prog 64 #[.slice s.a s.n s.c, .agg #[.int .i64 c.k, .int .i64 c.r, .int .i64 c.a, .int .i64 c.b, .int .i64 c.n]] w fun e w' => e = .returned (.int .i64 v) ∧ Below w.heap.size w w' := by
  subst hv; exact l11Check_any l s c w ht h1 h2

set_option maxHeartbeats 4000000 in
theorem specCheck_any (l : List T8) (s : Sl) (c : C5) (w : World) (ht : HasT w s l) (hz : l.length ≤ 1048576) (hzs : ∀ i (h : i < l.length), l[i].slots.length ≤ 1048576) :
    Calls Tryd.prog 29 #[.slice s.a s.n s.c, .agg #[.int .i64 c.k, .int .i64 c.r, .int .i64 c.a, .int .i64 c.b, .int .i64 c.n]] w fun e w' => e = .returned (.int .i64 (chkV l c)) ∧ Below w.heap.size w w' := by
  have HK0 := Lib.hid ((Kn.refl (w := w)).new 37 c.cs)
  have HT := Lib.hid ht
  have HZS := Lib.hid hzs
  clear ht hzs
  obtain ⟨v, hv⟩ : ∃ v, chkV l c = v := ⟨_, rfl⟩
  have HV := Lib.hid hv
  clear hv
  obtain ⟨b1, hb1⟩ : ∃ b1, tabOk l = b1 := ⟨_, rfl⟩
  have HB1 := Lib.hid hb1
  clear hb1
  go_enter Tryd.func29, Tryd.ntmps29
  go_wp2_with fail
  refine (specTabOk_val' HB1.out _ (HT.out.stay HK0.out.1) hz HZS.out).mono ?_
  rintro e y1 ⟨rfl, hb⟩
  have HK1 := Lib.hid (HK0.out.stay hb)
  clear hb HK0
  cases b1
  · go_wp2
    go_ret
    exact ⟨by rw [chkV_no (by rw [HB1.out]; rfl)]; rfl, HK1.out.1⟩
  obtain ⟨b2, hb2⟩ : ∃ b2, c.ok = b2 := ⟨_, rfl⟩
  have HB2 := Lib.hid hb2
  clear hb2
  have c0 := HK1.out.c (b := w.heap.size) (T := 37) (vs := c.cs) (by simp) 0 _ rfl
  have c1 := HK1.out.c (b := w.heap.size) (T := 37) (vs := c.cs) (by simp) 1 _ rfl
  have c2 := HK1.out.c (b := w.heap.size) (T := 37) (vs := c.cs) (by simp) 2 _ rfl
  have c3 := HK1.out.c (b := w.heap.size) (T := 37) (vs := c.cs) (by simp) 3 _ rfl
  have c4 := HK1.out.c (b := w.heap.size) (T := 37) (vs := c.cs) (by simp) 4 _ rfl
  go_wp2_with fail
  refine (specCallOk_val HB2.out _).mono ?_
  rintro e y2 ⟨rfl, hb⟩
  have HK2 := Lib.hid (HK1.out.stay hb)
  clear hb HK1 c0 c1 c2 c3 c4
  cases b2
  · go_wp2
    go_ret
    exact ⟨by rw [chkV_bad HB2.out]; rfl, HK2.out.1⟩
  obtain ⟨b3, hb3⟩ : ∃ b3, isRun l c.r = b3 := ⟨_, rfl⟩
  have HB3 := Lib.hid hb3
  clear hb3
  have c0 := HK2.out.c (b := w.heap.size) (T := 37) (vs := c.cs) (by simp) 0 _ rfl
  have c1 := HK2.out.c (b := w.heap.size) (T := 37) (vs := c.cs) (by simp) 1 _ rfl
  have c2 := HK2.out.c (b := w.heap.size) (T := 37) (vs := c.cs) (by simp) 2 _ rfl
  have c3 := HK2.out.c (b := w.heap.size) (T := 37) (vs := c.cs) (by simp) 3 _ rfl
  have c4 := HK2.out.c (b := w.heap.size) (T := 37) (vs := c.cs) (by simp) 4 _ rfl
  go_wp2_with fail
  refine (l11Run_val HB3.out _ (HT.out.stay HK2.out.1) hz).mono ?_
  rintro e y3 ⟨rfl, rfl⟩
  cases b3
  · go_wp2
    go_ret
    exact ⟨by rw [chkV_no (by rw [HB3.out, Bool.and_false])]; rfl, HK2.out.1⟩
  go_wp2_with fail
  refine (l11Check_val HV.out _ (HT.out.stay HK2.out.1) (by rw [HB1.out, HB3.out]; rfl) HB2.out).mono ?_
  rintro e y4 ⟨rfl, hb⟩
  have HK3 := Lib.hid (HK2.out.stay hb)
  clear hb HK2 c0 c1 c2 c3 c4
  go_wp2
  go_ret
  exact ⟨by rw [HV.out]; rfl, HK3.out.1⟩
theorem specCheck_val {l : List T8} {s : Sl} {c : C5} {v : Int} (h : chkV l c = v) (w : World) (ht : HasT w s l) (hz : l.length ≤ 1048576) (hzs : ∀ i (h : i < l.length), l[i].slots.length ≤ 1048576) :
    Calls Tryd.prog 29 #[.slice s.a s.n s.c, .agg #[.int .i64 c.k, .int .i64 c.r, .int .i64 c.a, .int .i64 c.b, .int .i64 c.n]] w fun e w' => e = .returned (.int .i64 v) ∧ Below w.heap.size w w' := by
  subst h; exact specCheck_any l s c w ht hz hzs
end Go.Proofs.YtohfincnjhemfaaDoor
