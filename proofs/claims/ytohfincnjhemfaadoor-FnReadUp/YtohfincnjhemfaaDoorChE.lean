/-
  Whether a call is allowed, and what is told of it: the program's allow and CheckCall.
-/
import Derived.Test.YtohfincnjhemfaaDoorChD
namespace Go.Proofs.YtohfincnjhemfaaDoor
open Go.RowKit
set_option linter.unusedVariables false
set_option maxRecDepth 100000

theorem chkV_no {l : List T8} {c : C5} (h : (tabOk l && isRun l c.r) = false) : chkV l c = -1 := by
  have : (tabOk l && (isRun l c.r && c.ok)) = false := by rw [← Bool.and_assoc, h]; rfl
  simp [chkV, this]
theorem chkV_bad {l : List T8} {c : C5} (h : c.ok = false) : chkV l c = -1 := by simp [chkV, h]
theorem chkV_go {l : List T8} {c : C5} (h : (tabOk l && isRun l c.r) = true) (h2 : c.ok = true) : chkV l c = if c.k = 3 then 0 else useV l (thAt l c.r) (slotAt (thAt l c.r) c.a) c.k := by
  have : (tabOk l && (isRun l c.r && c.ok)) = true := by rw [← Bool.and_assoc, h, h2]; rfl
  simp [chkV, this]
theorem ok_k {c : C5} (h : c.ok = true) : inR c.k 1 9 = true ∧ 1 ≤ c.r ∧ c.r ≤ 8 ∧ 0 ≤ c.a ∧ c.a ≤ 3 := by
  simp only [C5.ok, Bool.and_eq_true] at h
  have h2 : 1 ≤ c.r ∧ c.r ≤ 8 := by simpa [inR] using h.2.1
  have h3 : 0 ≤ c.a ∧ c.a ≤ 3 := by simpa [inR] using h.2.2.1
  exact ⟨h.1, h2.1, h2.2, h3.1, h3.2⟩
/-- A runner of a table has four rights, each is one, and to a thing that there is. -/
theorem run_slots {l : List T8} {n : Int} (h : (tabOk l && isRun l n) = true) : (thAt l n).slots.length = 4 ∧ ∀ i (hi : i < (thAt l n).slots.length), ((thAt l n).slots[i]).ok = true ∧ ((thAt l n).slots[i]).t ≤ l.length := by
  simp only [Bool.and_eq_true, isRun] at h
  obtain ⟨h1, h2, h3⟩ := h
  obtain ⟨j, hj, hn⟩ := idx_of h2
  rw [thAt_of hj hn] at h3 ⊢
  have he := tab_elem' h1 hj
  have ho := tab_okT h1 hj
  have hk : l[j].kind = 3 := by simpa using h3
  refine ⟨?_, fun i hi => ⟨okT_right ho hi, ?_⟩⟩
  · simp only [okT, Bool.and_eq_true] at ho
    have h3 := ho.2.2.2.2.1
    simp [okT3, hasS, hk] at h3
    omega
  · simp only [elemOk, Bool.and_eq_true] at he
    have := List.all_eq_true.1 he.2.2 _ (List.getElem_mem hi)
    simp [rightIn] at this
    exact this.1
theorem slotAt_of {x : T8} {a : Int} {j : Nat} (hj : j < x.slots.length) (ha : a = j) : slotAt x a = x.slots[j] := by
  simp [slotAt, ha, List.getElem?_eq_getElem hj]

set_option maxHeartbeats 8000000 in
theorem allow_any (l : List T8) (s : Sl) (c : C5) (w : World) (ht : HasT w s l) (hf : KF w) (hz : l.length ≤ 1048576) :
    Calls Tryd.prog 63 #[.slice s.a s.n s.c, .agg #[.int .i64 c.k, .int .i64 c.r, .int .i64 c.a, .int .i64 c.b, .int .i64 c.n]] w fun e w' => e = .returned (refV (chkV l c)) ∧ Below w.heap.size w w' := by
  have HK0 := Lib.hid ((Kn.refl (w := w)).new 37 c.cs)
  have HT := Lib.hid ht
  have HF := Lib.hid hf
  clear ht hf
  go_enter Tryd.func63, Tryd.ntmps63
  go_wp2_with fail
  refine (proc_get l s c.r _ (HT.out.stay HK0.out.1) (HF.out.stay HK0.out.1) hz).mono ?_
  rintro e y1 ⟨z, ss, qs, b1, rfl, g1, g2, hb⟩
  have HK1' := Lib.hid (HK0.out.stay hb)
  have HK1 := Lib.hid ((HK0.out.stay hb).new 33 (z.cs ss qs))
  have G1 := Lib.hid g1
  have G2 := Lib.hid g2
  clear hb HK0 g1 g2
  have lt1 := (HK1'.out.box (b := w.heap.size) (T := 37) (vs := c.cs) (by simp)).lt
  have c0 := HK1'.out.c (b := w.heap.size) (T := 37) (vs := c.cs) (by simp) 0 _ rfl
  have c1 := HK1'.out.c (b := w.heap.size) (T := 37) (vs := c.cs) (by simp) 1 _ rfl
  have c2 := HK1'.out.c (b := w.heap.size) (T := 37) (vs := c.cs) (by simp) 2 _ rfl
  have c3 := HK1'.out.c (b := w.heap.size) (T := 37) (vs := c.cs) (by simp) 3 _ rfl
  have c4 := HK1'.out.c (b := w.heap.size) (T := 37) (vs := c.cs) (by simp) 4 _ rfl
  clear HK1'
  cases b1
  · go_wp2
    go_ret
    refine ⟨?_, HK1.out.1⟩
    rw [chkV_no G1.out.symm, refV_1]
    rfl
  obtain ⟨v, hv⟩ : ∃ v, c.ok = v := ⟨_, rfl⟩
  have HV := Lib.hid hv
  clear hv
  go_wp2_with fail
  refine (implCallOk_val HV.out _).mono ?_
  rintro e y2 ⟨rfl, hb⟩
  have HK2 := Lib.hid (HK1.out.stay hb)
  have HR2 := Lib.hid ((G2.out (by simp)).2.stay (((Below.refl _ _).alloc (Nat.le_refl _) (.cells (z.cs ss qs) 33)).trans (hb.mono (by simp))))
  clear hb HK1 c0 c1 c2 c3 c4
  cases v
  · go_wp2
    go_ret
    refine ⟨?_, HK2.out.1⟩
    rw [chkV_bad HV.out, refV_1]
    rfl
  have HG := Lib.hid (chkV_go G1.out.symm HV.out)
  have c0 := HK2.out.c (b := w.heap.size) (T := 37) (vs := c.cs) (by simp) 0 _ rfl
  have c1 := HK2.out.c (b := w.heap.size) (T := 37) (vs := c.cs) (by simp) 1 _ rfl
  have c2 := HK2.out.c (b := w.heap.size) (T := 37) (vs := c.cs) (by simp) 2 _ rfl
  have c3 := HK2.out.c (b := w.heap.size) (T := 37) (vs := c.cs) (by simp) 3 _ rfl
  have c4 := HK2.out.c (b := w.heap.size) (T := 37) (vs := c.cs) (by simp) 4 _ rfl
  by_cases h3 : c.k = 3
  · have c0' : y2.cell? ⟨w.heap.size, 0, none⟩ = some (.int .i64 3) := by rw [c0]; simp [h3]
    have H3 := Lib.hid h3
    clear c0 h3
    go_wp2
    go_ret
    refine ⟨?_, HK2.out.1⟩
    rw [HG.out, if_pos H3.out]
    rfl
  have h3' : (c.k == 3) = false := by simpa using h3
  have H3 := Lib.hid h3
  have HE := Lib.hid (G2.out (by simp)).1
  obtain ⟨rl, rs⟩ := run_slots G1.out.symm
  rw [← HE.out] at rl rs
  obtain ⟨k9, -, -, a0, a3⟩ := ok_k HV.out
  obtain ⟨ck, cr, ca, cb, cn⟩ := c
  dsimp only at *
  obtain ⟨ja, rfl⟩ : ∃ ja : Nat, ca = ja := ⟨ca.toNat, by omega⟩
  have hja : ja < z.slots.length := by omega
  obtain ⟨rb, ro, hsa, hA⟩ := HR2.out.at hja
  obtain ⟨ro1, ro2⟩ := rs ja hja
  have HSL := Lib.hid (slotAt_of hja (show (ja : Int) = ja from rfl))
  obtain ⟨r, hr⟩ : ∃ r, z.slots[ja] = r := ⟨_, rfl⟩
  rw [hr] at hA ro1 ro2 HSL
  have hsn := HR2.out.len
  rw [rl] at hsn
  obtain ⟨sa, sn, sc⟩ := ss
  dsimp only at hsa hsn
  subst hsa hsn
  have K9 := Lib.hid k9
  have RO1 := Lib.hid ro1
  have RO2 := Lib.hid ro2
  have HU := Lib.hid (show chkV l ⟨ck, cr, (ja : Int), cb, cn⟩ = useV l z r ck by rw [HG.out, if_neg H3.out, ← HE.out, HSL.out])
  have H1 := Lib.hid (show tabOk l = true by have h := G1.out.symm; simp only [Bool.and_eq_true] at h; exact h.1)
  have FX0 : ∀ y', Kn w [(y1.heap.size, 33, z.cs ⟨some ⟨rb, ro, none⟩, 4, sc⟩ qs), (w.heap.size, 37, C5.cs ⟨ck, cr, (ja : Int), cb, cn⟩)] y' → At y' rb (ro + ja * 5) r.cs → Kn w [(y1.heap.size, 33, z.cs ⟨some ⟨rb, ro, none⟩, 4, sc⟩ qs), (w.heap.size, 37, C5.cs ⟨ck, cr, (ja : Int), cb, cn⟩)] y' ∧ y'.cell? ⟨w.heap.size, 0, none⟩ = some (.int .i64 ck) ∧ y'.cell? ⟨w.heap.size, 2, none⟩ = some (.int .i64 (ja : Int)) ∧ y'.cell? ⟨y1.heap.size, 0, none⟩ = some (.int .i64 z.kind) ∧ y'.cell? ⟨y1.heap.size, 1, none⟩ = some (.int .i64 z.sec) ∧ y'.cell? ⟨y1.heap.size, 2, none⟩ = some (.int .i64 z.vou) ∧ y'.cell? ⟨y1.heap.size, 3, none⟩ = some (.int .i64 z.vers) ∧ y'.cell? ⟨y1.heap.size, 4, none⟩ = some (.int .i64 z.num) ∧ y'.cell? ⟨y1.heap.size, 5, none⟩ = some (.slice (some ⟨rb, ro, none⟩) 4 sc) ∧ y'.cell? ⟨y1.heap.size, 6, none⟩ = some (.slice qs.a qs.n qs.c) ∧ y'.cell? ⟨y1.heap.size, 7, none⟩ = some (.int .i64 z.to) ∧ y'.cell? ⟨rb, ro + ja * 5, none⟩ = some (.int .i64 r.t) ∧ y'.cell? ⟨rb, ro + ja * 5 + 1, none⟩ = some (.int .i64 r.v) ∧ y'.cell? ⟨rb, ro + ja * 5 + 2, none⟩ = some (.bool r.r) ∧ y'.cell? ⟨rb, ro + ja * 5 + 3, none⟩ = some (.bool r.w) ∧ y'.cell? ⟨rb, ro + ja * 5 + 4, none⟩ = some (.bool r.k) := fun y' h a => ⟨h, h.c (b := w.heap.size) (T := 37) (vs := C5.cs ⟨ck, cr, (ja : Int), cb, cn⟩) (by simp) 0 _ rfl, h.c (b := w.heap.size) (T := 37) (vs := C5.cs ⟨ck, cr, (ja : Int), cb, cn⟩) (by simp) 2 _ rfl, h.c (b := y1.heap.size) (T := 33) (vs := z.cs ⟨some ⟨rb, ro, none⟩, 4, sc⟩ qs) (by simp) 0 _ rfl, h.c (b := y1.heap.size) (T := 33) (vs := z.cs ⟨some ⟨rb, ro, none⟩, 4, sc⟩ qs) (by simp) 1 _ rfl, h.c (b := y1.heap.size) (T := 33) (vs := z.cs ⟨some ⟨rb, ro, none⟩, 4, sc⟩ qs) (by simp) 2 _ rfl, h.c (b := y1.heap.size) (T := 33) (vs := z.cs ⟨some ⟨rb, ro, none⟩, 4, sc⟩ qs) (by simp) 3 _ rfl, h.c (b := y1.heap.size) (T := 33) (vs := z.cs ⟨some ⟨rb, ro, none⟩, 4, sc⟩ qs) (by simp) 4 _ rfl, h.c (b := y1.heap.size) (T := 33) (vs := z.cs ⟨some ⟨rb, ro, none⟩, 4, sc⟩ qs) (by simp) 5 _ rfl, h.c (b := y1.heap.size) (T := 33) (vs := z.cs ⟨some ⟨rb, ro, none⟩, 4, sc⟩ qs) (by simp) 6 _ rfl, h.c (b := y1.heap.size) (T := 33) (vs := z.cs ⟨some ⟨rb, ro, none⟩, 4, sc⟩ qs) (by simp) 7 _ rfl, a 0 _ rfl, a 1 _ rfl, a 2 _ rfl, a 3 _ rfl, a 4 _ rfl⟩
  have FX := Lib.hid FX0
  have hB0 := HK2.out
  have hB := HK2.out.drew
  have tB := Lib.hid (HT.out.stay hB.1)
  have fB := Lib.hid (HF.out.stay hB.1)
  have aB0 := hA
  have aB := hA.drew
  have hj4 : (ja : Int) < 4 := by omega
  have wj : IntKind.i64.wrap (ja : Int) = (ja : Int) := IntWalk.i64_in _ (by omega)
  clear FX0 HG HSL HE HR2 hr hA rs rl ro1 ro2 k9 h3 G1 G2 HK2
  go_upto_region 6 with fail
  clear c0 c1 c2 c3 c4
  go_region_held3 (fun y' => Kn w [(y1.heap.size, 33, z.cs ⟨some ⟨rb, ro, none⟩, 4, sc⟩ qs), (w.heap.size, 37, C5.cs ⟨ck, cr, (ja : Int), cb, cn⟩)] y' ∧ y'.cell? ⟨w.heap.size, 0, none⟩ = some (.int .i64 ck) ∧ y'.cell? ⟨w.heap.size, 2, none⟩ = some (.int .i64 (ja : Int)) ∧ y'.cell? ⟨y1.heap.size, 0, none⟩ = some (.int .i64 z.kind) ∧ y'.cell? ⟨y1.heap.size, 1, none⟩ = some (.int .i64 z.sec) ∧ y'.cell? ⟨y1.heap.size, 2, none⟩ = some (.int .i64 z.vou) ∧ y'.cell? ⟨y1.heap.size, 3, none⟩ = some (.int .i64 z.vers) ∧ y'.cell? ⟨y1.heap.size, 4, none⟩ = some (.int .i64 z.num) ∧ y'.cell? ⟨y1.heap.size, 5, none⟩ = some (.slice (some ⟨rb, ro, none⟩) 4 sc) ∧ y'.cell? ⟨y1.heap.size, 6, none⟩ = some (.slice qs.a qs.n qs.c) ∧ y'.cell? ⟨y1.heap.size, 7, none⟩ = some (.int .i64 z.to) ∧ y'.cell? ⟨rb, ro + ja * 5, none⟩ = some (.int .i64 r.t) ∧ y'.cell? ⟨rb, ro + ja * 5 + 1, none⟩ = some (.int .i64 r.v) ∧ y'.cell? ⟨rb, ro + ja * 5 + 2, none⟩ = some (.bool r.r) ∧ y'.cell? ⟨rb, ro + ja * 5 + 3, none⟩ = some (.bool r.w) ∧ y'.cell? ⟨rb, ro + ja * 5 + 4, none⟩ = some (.bool r.k))
    (first | with_reducible exact FX.out _ hB aB | with_reducible exact FX.out _ hB0 aB0)
    (first
      | (go_at_call 94; refine (reqOf_any ck K9.out H3.out _).mono ?_; rintro e y5 ⟨b, rfl, hq, hb⟩; have HQ := Lib.hid hq; have hB := hB.stay hb; have aB := aB.stay hb; have tB := Lib.hid (tB.out.stay hb); have fB := Lib.hid (fB.out.stay hb); clear hq hb)
      | (go_at_call 93; refine (allowUse_any l s z ⟨some ⟨rb, ro, none⟩, 4, sc⟩ qs r ck b _ tB.out fB.out HQ.out hz H1.out RO1.out RO2.out).mono ?_; rintro e y6 ⟨rfl, hb⟩; have hB := hB.stay hb; have aB := aB.stay hb; clear hb))
  all_goals
    go_wp2
    go_ret
    exact ⟨by rw [HU.out]; rfl, hB.1⟩

theorem allow_nil {l : List T8} {s : Sl} {c : C5} (h : chkV l c = 0) (w : World) (ht : HasT w s l) (hf : KF w) (hz : l.length ≤ 1048576) :
    Calls Tryd.prog 63 #[.slice s.a s.n s.c, .agg #[.int .i64 c.k, .int .i64 c.r, .int .i64 c.a, .int .i64 c.b, .int .i64 c.n]] w fun e w' => e = .returned .nilIface ∧ Below w.heap.size w w' :=
  (allow_any l s c w ht hf hz).mono fun e w' h2 => ⟨by rw [h2.1, h, refV_0], h2.2⟩
theorem allow_ref {l : List T8} {s : Sl} {c : C5} {v : Int} (h : chkV l c = v) (hv : v ≠ 0) (w : World) (ht : HasT w s l) (hf : KF w) (hz : l.length ≤ 1048576) :
    Calls Tryd.prog 63 #[.slice s.a s.n s.c, .agg #[.int .i64 c.k, .int .i64 c.r, .int .i64 c.a, .int .i64 c.b, .int .i64 c.n]] w fun e w' => e = .returned (.iface 75 (.agg #[.int .i64 v])) ∧ Below w.heap.size w w' :=
  (allow_any l s c w ht hf hz).mono fun e w' h2 => ⟨by rw [h2.1, h, refV, if_neg hv], h2.2⟩
theorem as_got (n : Int) (t : Nat) (w : World) (hg : ET w) (ht : Box w t 75 #[.int .i64 0]) :
    Calls Tryd.prog 62 #[.iface 75 (.agg #[.int .i64 n]), .iface 80 (.pointer (some ⟨t, 0, none⟩))] w fun e w' => e = .returned (.bool true) ∧ Box w' t 75 #[.int .i64 n] ∧ Grew t w w' :=
  (as_hit n t w hg ht).mono fun e w' h => by
    obtain ⟨h1, rfl⟩ := h
    refine ⟨h1, ?_, ((((Grew.refl t w).alloc _).alloc _).alloc _).alloc _ |>.put (.inl rfl) _⟩
    have := ((((ht.past (.cells #[.pointer (some ⟨t, 0, none⟩)] 80)).past (.cells #[hnd 80, .pointer (some ⟨w.heap.size, 0, none⟩), .int .u64 150] 114)).past (.cells #[hnd 80, .pointer (some ⟨w.heap.size, 0, none⟩), .int .u64 150] 114)).past (.cells #[.int .i64 n] 75)).put 0 (.int .i64 n)
    simpa using this

set_option maxHeartbeats 4000000 in
theorem implCheck_any (l : List T8) (s : Sl) (c : C5) (w : World) (ht : HasT w s l) (hf : KF w) (he : ET w) (hz : l.length ≤ 1048576) :
    Calls Tryd.prog 28 #[.slice s.a s.n s.c, .agg #[.int .i64 c.k, .int .i64 c.r, .int .i64 c.a, .int .i64 c.b, .int .i64 c.n]] w fun e w' => e = .returned (.int .i64 (chkV l c)) ∧ Below w.heap.size w w' := by
  have hk := (((Kn.refl (w := w)).new 37 c.cs).new 75 #[.int .i64 0])
  rw [show (w.alloc (.cells c.cs 37)).heap.size = w.heap.size + 1 by simp] at hk
  have HK0 := Lib.hid hk
  have HT := Lib.hid (ht.stay hk.1)
  have HF := Lib.hid (hf.stay hk.1)
  have HE := Lib.hid (he.stay hk.1)
  clear ht hf he hk
  obtain ⟨v, hv⟩ : ∃ v, chkV l c = v := ⟨_, rfl⟩
  have HV := Lib.hid hv
  rw [hv]
  clear hv
  by_cases h0 : v = 0
  · subst h0
    go_enter Tryd.func28, Tryd.ntmps28
    go_wp2_with fail
    refine (allow_nil HV.out _ HT.out HF.out hz).mono ?_
    rintro e y1 ⟨rfl, hb⟩
    have HK1 := Lib.hid (HK0.out.stay hb)
    clear hb HK0
    go_wp2_with fail
    refine (as_nil _ _).mono ?_
    rintro e y2 ⟨rfl, rfl⟩
    go_wp2
    go_ret
    exact ⟨rfl, HK1.out.1⟩
  · have H0 := Lib.hid h0
    clear h0
    go_enter Tryd.func28, Tryd.ntmps28
    go_wp2_with fail
    refine (allow_ref HV.out H0.out _ HT.out HF.out hz).mono ?_
    rintro e y1 ⟨rfl, hb⟩
    have HK1 := Lib.hid (HK0.out.stay hb)
    have HE1 := Lib.hid (HE.out.stay hb)
    clear hb HK0
    go_wp2_with fail
    refine (as_got v (w.heap.size + 1) _ HE1.out (HK1.out.box (b := w.heap.size + 1) (T := 75) (vs := #[.int .i64 0]) (by simp))).mono ?_
    rintro e y2 ⟨rfl, bx, g⟩
    have d0 := bx.cell 0 _ rfl
    have HB := Lib.hid (HK1.out.1.trans (g.below (by omega) HK1.out.1.size))
    clear bx g
    go_wp2
    go_ret
    exact ⟨rfl, HB.out⟩
theorem implCheck_val {l : List T8} {s : Sl} {c : C5} {v : Int} (h : chkV l c = v) (w : World) (ht : HasT w s l) (hf : KF w) (he : ET w) (hz : l.length ≤ 1048576) :
    Calls Tryd.prog 28 #[.slice s.a s.n s.c, .agg #[.int .i64 c.k, .int .i64 c.r, .int .i64 c.a, .int .i64 c.b, .int .i64 c.n]] w fun e w' => e = .returned (.int .i64 v) ∧ Below w.heap.size w w' := by
  subst h; exact implCheck_any l s c w ht hf he hz
end Go.Proofs.YtohfincnjhemfaaDoor
