/-
  CheckSees and CheckTouches, the program's and the model's.
-/
import Derived.Test.YtpahahonopiblaaDoorChA
namespace Go.Proofs.YtpahahonopiblaaDoor
open Go.RowKit
set_option linter.unusedVariables false
set_option maxRecDepth 100000

theorem thingAt_get (l : List T8) (s : Sl) (n : Int) (w : World) (ht : HasT w s l) (hz : l.length ≤ 1048576) :
    Calls Tryd.prog 64 #[.slice s.a s.n s.c, .int .i64 n] w fun e w' => ∃ (z : T8) (ss qs : Sl) (b : Bool), e = .returned (.tuple #[z.val ss qs, .bool b]) ∧ b = inR n 1 l.length ∧ (b = true → z = thAt l n) ∧ Below w.heap.size w w' := by
  rw [ht.1]
  cases h : inR n 1 l.length
  · exact (thingAt_no n l.length s.a s.c h w).mono fun e w' ⟨e1, e2⟩ => ⟨z8, ⟨none, 0, 0⟩, ⟨none, 0, 0⟩, false, e1, rfl, fun h => (by cases h), e2⟩
  · obtain ⟨j, hj, hn⟩ := idx_of h
    obtain ⟨b, o, ea, hTb⟩ := ht.ne hj
    obtain ⟨ss, qs, -, -, hA⟩ := hTb j hj
    rw [ea]
    exact (thingAt_yes l b o s.c n j hj hn hz ss qs w hA).mono fun e w' ⟨e1, e2⟩ => ⟨l[j], ss, qs, true, e1, rfl, fun _ => (thAt_of hj hn).symm, e2⟩
theorem proc_get (l : List T8) (s : Sl) (n : Int) (w : World) (ht : HasT w s l) (hf : KF w) (hz : l.length ≤ 1048576) :
    Calls Tryd.prog 119 #[.slice s.a s.n s.c, .int .i64 n] w fun e w' => ∃ (z : T8) (ss qs : Sl) (b : Bool), e = .returned (.tuple #[z.val ss qs, .bool b]) ∧ b = (tabOk l && isRun l n) ∧ (b = true → z = thAt l n ∧ HasR w' ss z.slots) ∧ Below w.heap.size w w' := by
  cases h : (tabOk l && isRun l n)
  · exact (proc_no l s n w ht hf hz h).mono fun e w' ⟨e1, e2⟩ => ⟨z8, ⟨none, 0, 0⟩, ⟨none, 0, 0⟩, false, e1, rfl, fun h => (by cases h), e2⟩
  · simp only [Bool.and_eq_true, isRun] at h
    obtain ⟨h1, h2, h3⟩ := h
    obtain ⟨j, hj, hn⟩ := idx_of h2
    obtain ⟨b, o, ea, hTb⟩ := ht.ne hj
    obtain ⟨ss, qs, hr, -, hA⟩ := hTb j hj
    rw [thAt_of hj hn] at h3
    exact (proc_yes l s n j hj hn b o ea ss qs w hA ht hf hz h1 (by simpa using h3)).mono fun e w' ⟨e1, e2⟩ => ⟨l[j], ss, qs, true, e1, rfl, fun _ => ⟨(thAt_of hj hn).symm, hr.stay e2⟩, e2⟩

/-- Worlds in which some blocks are known, and a table. -/
def KT (w : World) (L : List Blk3) (s : Sl) (l : List T8) (y : World) : Prop := Kn w L y ∧ HasT y s l
theorem KT.stay {w x y : World} {L : List Blk3} {s : Sl} {l : List T8} (h : KT w L s l x) (hb : Below x.heap.size x y) : KT w L s l y := ⟨h.1.stay hb, h.2.stay hb⟩
theorem KT.drew {w x : World} {L : List Blk3} {s : Sl} {l : List T8} (h : KT w L s l x) : KT w L s l x.drew := h.stay (Below.refl _ _).drew

set_option maxHeartbeats 2000000 in
theorem l11Run_any (l : List T8) (s : Sl) (n : Int) (w : World) (ht : HasT w s l) (hz : l.length ≤ 1048576) :
    Calls Tryd.prog 107 #[.slice s.a s.n s.c, .int .i64 n] w fun e w' => e = .returned (.bool (isRun l n)) ∧ w = w' := by
  rw [ht.1]
  cases h : inR n 1 l.length
  · have H := Lib.hid h
    clear h ht
    go_enter Tryd.func107, Tryd.ntmps107
    go_wp2_with fail
    refine (l6In_val H.out _).mono ?_
    rintro e y ⟨rfl, rfl⟩
    go_wp2
    go_ret
    exact ⟨by simp [isRun, H.out], rfl⟩
  · obtain ⟨j, hj, hn⟩ := idx_of h
    obtain ⟨b, o, ea, hTb⟩ := ht.ne hj
    obtain ⟨ss, qs, -, -, hA⟩ := hTb j hj
    rw [ea]
    have f0 : w.cell? ⟨b, o + j * 8, none⟩ = some (.int .i64 l[j].kind) := hA 0 _ rfl
    have H := Lib.hid h
    have HE := Lib.hid (show isRun l n = (l[j].kind == 3) by simp only [isRun, h, thAt_of hj hn, Bool.true_and])
    have hw : wrap64 (n - 1) = (j : Int) := by unfold wrap64; omega
    have hj' : (j : Int) < (l.length : Int) := by omega
    clear h ht hA hTb ea hn
    go_enter Tryd.func107, Tryd.ntmps107
    go_wp2_with fail
    refine (l6In_val H.out _).mono ?_
    rintro e y ⟨rfl, rfl⟩
    go_wp2
    go_ret
    exact ⟨by rw [HE.out]; rfl, rfl⟩

set_option maxHeartbeats 4000000 in
theorem l11Sees_at (l : List T8) (b o c : Nat) (r n : Int) (jr jn : Nat) (hjr : jr < l.length) (hjn : jn < l.length) (hr : r - 1 = jr) (hn : n - 1 = jn) (w : World) (ht : HasT w ⟨some ⟨b, o, none⟩, l.length, c⟩ l) (hz : l.length ≤ 1048576) (o1 : okL l[jr].sec l[jr].vou = true) (o2 : okL l[jn].sec l[jn].vou = true) :
    Calls Tryd.prog 126 #[.slice (some ⟨b, o, none⟩) l.length c, .int .i64 r, .int .i64 n] w fun e w' => e = .returned (.bool (seesT l[jr] l[jn])) ∧ Below w.heap.size w w' := by
  have wr : wrap64 (r - 1) = (jr : Int) := by unfold wrap64; omega
  have wn : wrap64 (n - 1) = (jn : Int) := by unfold wrap64; omega
  have hjr' : (jr : Int) < (l.length : Int) := by omega
  have hjn' : (jn : Int) < (l.length : Int) := by omega
  have E0 : Hid (KT w [] ⟨some ⟨b, o, none⟩, l.length, c⟩ l w) := Lib.hid ⟨Kn.refl, ht⟩
  have HV := Lib.hid (show seesT l[jr] l[jn] = (sub2 l[jn].sec l[jr].sec && sub2 l[jr].vou l[jn].vou) from flow_ok (by assumption) (by assumption))
  have HARM := Lib.hid (fun y => l1Flow_any l[jn].sec l[jn].vou l[jr].sec l[jr].vou y (by assumption) (by assumption))
  have key : ∀ (i : Nat) (hi : i < l.length) (zz : Wd (KT w [] ⟨some ⟨b, o, none⟩, l.length, c⟩ l)), At zz.w b (o + i * 8) (l[i].cs ⟨none, 0, 0⟩ ⟨none, 0, 0⟩) ∨ ∃ ss qs, At zz.w b (o + i * 8) (l[i].cs ss qs) := fun i hi zz => by
    obtain ⟨b', o', e, h⟩ := zz.ok.2.ne hi
    simp only [Option.some.injEq, Addr.mk.injEq] at e
    obtain ⟨rfl, rfl, -⟩ := e
    obtain ⟨ss, qs, -, -, hA⟩ := h i hi
    exact .inr ⟨ss, qs, hA⟩
  have s1 : ∀ zz : Wd (KT w [] ⟨some ⟨b, o, none⟩, l.length, c⟩ l), zz.w.cell? ⟨b, o + jr * 8 + 1, none⟩ = some (.int .i64 l[jr].sec) := fun zz => by
    rcases key jr hjr zz with h | ⟨ss, qs, h⟩ <;> exact h 1 _ rfl
  have v1 : ∀ zz : Wd (KT w [] ⟨some ⟨b, o, none⟩, l.length, c⟩ l), zz.w.cell? ⟨b, o + jr * 8 + 2, none⟩ = some (.int .i64 l[jr].vou) := fun zz => by
    rcases key jr hjr zz with h | ⟨ss, qs, h⟩ <;> exact h 2 _ rfl
  have s2 : ∀ zz : Wd (KT w [] ⟨some ⟨b, o, none⟩, l.length, c⟩ l), zz.w.cell? ⟨b, o + jn * 8 + 1, none⟩ = some (.int .i64 l[jn].sec) := fun zz => by
    rcases key jn hjn zz with h | ⟨ss, qs, h⟩ <;> exact h 1 _ rfl
  have v2 : ∀ zz : Wd (KT w [] ⟨some ⟨b, o, none⟩, l.length, c⟩ l), zz.w.cell? ⟨b, o + jn * 8 + 2, none⟩ = some (.int .i64 l[jn].vou) := fun zz => by
    rcases key jn hjn zz with h | ⟨ss, qs, h⟩ <;> exact h 2 _ rfl
  have ne : Nonempty (Wd (KT w [] ⟨some ⟨b, o, none⟩, l.length, c⟩ l)) := ⟨⟨_, E0.out.drew⟩⟩
  clear key o1 o2 hr hn ht
  rw [HV.out]
  clear HV
  generalize l[jr] = zr at *
  generalize l[jn] = zn at *
  go_enter Tryd.func126, Tryd.ntmps126
  go_upto_region 1 with fail
  refine wp_region_quiet (C := fun y => ∃ zz : Wd (KT w [] ⟨some ⟨b, o, none⟩, l.length, c⟩ l), y = zz.w) (by kernel_rfl) (by kernel_rfl) ⟨⟨_, E0.out.drew⟩, rfl⟩ ?_
  show wpQuiet _ _ _ _ [_, _, _, _, _, _, _, _, _, _, _, _, _, _] _
  repeat (first | go_big_quiet_step ((go_at_call 69; exact inCls KT.stay (HARM.out _))) | quiet_step ((go_at_call 69; exact inCls KT.stay (HARM.out _))))
  refine wpQuiet_nil ?_
  rintro _ ⟨t3, rfl⟩
  clear ne s1 v1 s2 v2
  obtain ⟨y5, D5⟩ := t3
  dsimp only
  go_wp2
  go_ret
  exact ⟨rfl, D5.1.1⟩
theorem l11Sees_any (l : List T8) (s : Sl) (r n : Int) (w : World) (ht : HasT w s l) (hz : l.length ≤ 1048576) (h1 : tabOk l = true) (hr : inR r 1 l.length = true) (hn : inR n 1 l.length = true) :
    Calls Tryd.prog 126 #[.slice s.a s.n s.c, .int .i64 r, .int .i64 n] w fun e w' => e = .returned (.bool (seesT (thAt l r) (thAt l n))) ∧ Below w.heap.size w w' := by
  obtain ⟨jr, hjr, er⟩ := idx_of hr
  obtain ⟨jn, hjn, en⟩ := idx_of hn
  obtain ⟨b, o, ea, hTb⟩ := ht.ne hjr
  have ht' : HasT w ⟨some ⟨b, o, none⟩, l.length, s.c⟩ l := ⟨rfl, by have := ht.2.1; rw [ht.1] at this; exact this, .inr ⟨b, o, rfl, hTb⟩⟩
  rw [ht.1, ea, thAt_of hjr er, thAt_of hjn en]
  exact l11Sees_at l b o s.c r n jr jn hjr hjn er en w ht' hz (okT_lab (tab_okT h1 hjr)) (okT_lab (tab_okT h1 hjn))

set_option maxHeartbeats 4000000 in
theorem l11Touches_at (l : List T8) (b o c : Nat) (r n : Int) (jr jn : Nat) (hjr : jr < l.length) (hjn : jn < l.length) (hr : r - 1 = jr) (hn : n - 1 = jn) (w : World) (ht : HasT w ⟨some ⟨b, o, none⟩, l.length, c⟩ l) (hz : l.length ≤ 1048576) (o1 : okL l[jr].sec l[jr].vou = true) (o2 : okL l[jn].sec l[jn].vou = true) :
    Calls Tryd.prog 133 #[.slice (some ⟨b, o, none⟩) l.length c, .int .i64 r, .int .i64 n] w fun e w' => e = .returned (.bool (touT l[jr] l[jn])) ∧ Below w.heap.size w w' := by
  have wr : wrap64 (r - 1) = (jr : Int) := by unfold wrap64; omega
  have wn : wrap64 (n - 1) = (jn : Int) := by unfold wrap64; omega
  have hjr' : (jr : Int) < (l.length : Int) := by omega
  have hjn' : (jn : Int) < (l.length : Int) := by omega
  have E0 : Hid (KT w [] ⟨some ⟨b, o, none⟩, l.length, c⟩ l w) := Lib.hid ⟨Kn.refl, ht⟩
  have HV := Lib.hid (show touT l[jr] l[jn] = (sub2 l[jr].sec l[jn].sec && sub2 l[jn].vou l[jr].vou) from flow_ok (by assumption) (by assumption))
  have HARM := Lib.hid (fun y => l1Flow_any l[jr].sec l[jr].vou l[jn].sec l[jn].vou y (by assumption) (by assumption))
  have key : ∀ (i : Nat) (hi : i < l.length) (zz : Wd (KT w [] ⟨some ⟨b, o, none⟩, l.length, c⟩ l)), At zz.w b (o + i * 8) (l[i].cs ⟨none, 0, 0⟩ ⟨none, 0, 0⟩) ∨ ∃ ss qs, At zz.w b (o + i * 8) (l[i].cs ss qs) := fun i hi zz => by
    obtain ⟨b', o', e, h⟩ := zz.ok.2.ne hi
    simp only [Option.some.injEq, Addr.mk.injEq] at e
    obtain ⟨rfl, rfl, -⟩ := e
    obtain ⟨ss, qs, -, -, hA⟩ := h i hi
    exact .inr ⟨ss, qs, hA⟩
  have s1 : ∀ zz : Wd (KT w [] ⟨some ⟨b, o, none⟩, l.length, c⟩ l), zz.w.cell? ⟨b, o + jr * 8 + 1, none⟩ = some (.int .i64 l[jr].sec) := fun zz => by
    rcases key jr hjr zz with h | ⟨ss, qs, h⟩ <;> exact h 1 _ rfl
  have v1 : ∀ zz : Wd (KT w [] ⟨some ⟨b, o, none⟩, l.length, c⟩ l), zz.w.cell? ⟨b, o + jr * 8 + 2, none⟩ = some (.int .i64 l[jr].vou) := fun zz => by
    rcases key jr hjr zz with h | ⟨ss, qs, h⟩ <;> exact h 2 _ rfl
  have s2 : ∀ zz : Wd (KT w [] ⟨some ⟨b, o, none⟩, l.length, c⟩ l), zz.w.cell? ⟨b, o + jn * 8 + 1, none⟩ = some (.int .i64 l[jn].sec) := fun zz => by
    rcases key jn hjn zz with h | ⟨ss, qs, h⟩ <;> exact h 1 _ rfl
  have v2 : ∀ zz : Wd (KT w [] ⟨some ⟨b, o, none⟩, l.length, c⟩ l), zz.w.cell? ⟨b, o + jn * 8 + 2, none⟩ = some (.int .i64 l[jn].vou) := fun zz => by
    rcases key jn hjn zz with h | ⟨ss, qs, h⟩ <;> exact h 2 _ rfl
  have ne : Nonempty (Wd (KT w [] ⟨some ⟨b, o, none⟩, l.length, c⟩ l)) := ⟨⟨_, E0.out.drew⟩⟩
  clear key o1 o2 hr hn ht
  rw [HV.out]
  clear HV
  generalize l[jr] = zr at *
  generalize l[jn] = zn at *
  go_enter Tryd.func133, Tryd.ntmps133
  go_upto_region 1 with fail
  refine wp_region_quiet (C := fun y => ∃ zz : Wd (KT w [] ⟨some ⟨b, o, none⟩, l.length, c⟩ l), y = zz.w) (by kernel_rfl) (by kernel_rfl) ⟨⟨_, E0.out.drew⟩, rfl⟩ ?_
  show wpQuiet _ _ _ _ [_, _, _, _, _, _, _, _, _, _, _, _, _, _] _
  repeat (first | go_big_quiet_step ((go_at_call 69; exact inCls KT.stay (HARM.out _))) | quiet_step ((go_at_call 69; exact inCls KT.stay (HARM.out _))))
  refine wpQuiet_nil ?_
  rintro _ ⟨t3, rfl⟩
  clear ne s1 v1 s2 v2
  obtain ⟨y5, D5⟩ := t3
  dsimp only
  go_wp2
  go_ret
  exact ⟨rfl, D5.1.1⟩
theorem l11Touches_any (l : List T8) (s : Sl) (r n : Int) (w : World) (ht : HasT w s l) (hz : l.length ≤ 1048576) (h1 : tabOk l = true) (hr : inR r 1 l.length = true) (hn : inR n 1 l.length = true) :
    Calls Tryd.prog 133 #[.slice s.a s.n s.c, .int .i64 r, .int .i64 n] w fun e w' => e = .returned (.bool (touT (thAt l r) (thAt l n))) ∧ Below w.heap.size w w' := by
  obtain ⟨jr, hjr, er⟩ := idx_of hr
  obtain ⟨jn, hjn, en⟩ := idx_of hn
  obtain ⟨b, o, ea, hTb⟩ := ht.ne hjr
  have ht' : HasT w ⟨some ⟨b, o, none⟩, l.length, s.c⟩ l := ⟨rfl, by have := ht.2.1; rw [ht.1] at this; exact this, .inr ⟨b, o, rfl, hTb⟩⟩
  rw [ht.1, ea, thAt_of hjr er, thAt_of hjn en]
  exact l11Touches_at l b o s.c r n jr jn hjr hjn er en w ht' hz (okT_lab (tab_okT h1 hjr)) (okT_lab (tab_okT h1 hjn))

theorem specTabOk_val' {l : List T8} {s : Sl} {b : Bool} (h : tabOk l = b) (w : World) (ht : HasT w s l) (hz : l.length ≤ 1048576) (hzs : ∀ i (h : i < l.length), l[i].slots.length ≤ 1048576) :
    Calls Tryd.prog 28 #[.slice s.a s.n s.c] w fun e w' => e = .returned (.bool b) ∧ Below w.heap.size w w' := by
  subst h; exact specTabOk_any l s w ht hz hzs
theorem l11Run_val {l : List T8} {s : Sl} {n : Int} {b : Bool} (h : isRun l n = b) (w : World) (ht : HasT w s l) (hz : l.length ≤ 1048576) :
    Calls Tryd.prog 107 #[.slice s.a s.n s.c, .int .i64 n] w fun e w' => e = .returned (.bool b) ∧ w = w' := by
  subst h; exact l11Run_any l s n w ht hz
end Go.Proofs.YtpahahonopiblaaDoor
