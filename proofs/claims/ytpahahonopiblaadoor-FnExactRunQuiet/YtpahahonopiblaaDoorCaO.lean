/-
  The caller of a call (the same as in ChE, for a seat without CheckCall).
-/
import Derived.Test.YtpahahonopiblaaDoorChA
import Derived.Test.YtpahahonopiblaaDoorCalA
namespace Go.Proofs.YtpahahonopiblaaDoor
open Go.RowKit
set_option linter.unusedVariables false
set_option maxRecDepth 100000

/-- As proc_get, with where the rights lay ahead. -/
theorem procO (l : List T8) (s : Sl) (n : Int) (w0 w : World) (hw : Below w0.heap.size w0 w) (ht : HasT w0 s l) (hf : KF w0) (hz : l.length ≤ 1048576) :
    Calls Tryd.prog 119 #[.slice s.a s.n s.c, .int .i64 n] w fun e w' => ∃ (z : T8) (ss qs : Sl) (b : Bool), e = .returned (.tuple #[z.val ss qs, .bool b]) ∧ b = (tabOk l && isRun l n) ∧ (b = true → z = thAt l n ∧ HasR w0 ss z.slots) ∧ Below w.heap.size w w' := by
  cases h : (tabOk l && isRun l n)
  · exact (proc_no l s n w (ht.stay hw) (hf.stay hw) hz h).mono fun e w' ⟨e1, e2⟩ => ⟨z8, ⟨none, 0, 0⟩, ⟨none, 0, 0⟩, false, e1, rfl, fun h => (by cases h), e2⟩
  · simp only [Bool.and_eq_true, isRun] at h
    obtain ⟨h1, h2, h3⟩ := h
    obtain ⟨j, hj, hn⟩ := idx_of h2
    obtain ⟨b, o, ea, hTb⟩ := ht.ne hj
    obtain ⟨ss, qs, hr, -, hA⟩ := hTb j hj
    rw [thAt_of hj hn] at h3
    exact (proc_yes l s n j hj hn b o ea ss qs w (hA.stay hw) (ht.stay hw) (hf.stay hw) hz h1 (by simpa using h3)).mono fun e w' ⟨e1, e2⟩ => ⟨l[j], ss, qs, true, e1, rfl, fun _ => ⟨(thAt_of hj hn).symm, hr⟩, e2⟩
set_option maxHeartbeats 8000000 in
/-- The caller: there, if the call is ok, and things are a table with this runner. -/
theorem callerO (l : List T8) (s : Sl) (c : C5) (w : World) (ht : HasT w s l) (hf : KF w) (hz : l.length ≤ 1048576) :
    Calls Tryd.prog 108 #[.slice s.a s.n s.c, .agg #[.int .i64 c.k, .int .i64 c.r, .int .i64 c.a, .int .i64 c.b, .int .i64 c.n]] w fun e w' => ∃ (z : T8) (ss qs : Sl) (b : Bool), e = .returned (.tuple #[z.val ss qs, .bool b]) ∧ b = ((tabOk l && isRun l c.r) && c.ok) ∧ (b = true → z = thAt l c.r ∧ HasR w' ss z.slots) ∧ Below w.heap.size w w' := by
  have HK0 := Lib.hid (((Kn.refl (w := w)).new 67 c.cs).new 37 #[.int .i64 0, .int .i64 0, .int .i64 0, .int .i64 0, .int .i64 0, .slice none 0 0, .slice none 0 0, .int .i64 0])
  rw [show (w.alloc (.cells c.cs 67)).heap.size = w.heap.size + 1 by simp] at HK0
  have HT := Lib.hid ht
  have HF := Lib.hid hf
  clear ht hf
  obtain ⟨v, hv⟩ : ∃ v, c.ok = v := ⟨_, rfl⟩
  have HV := Lib.hid hv
  clear hv
  cases v
  · go_enter Tryd.func108, Tryd.ntmps108
    go_wp2_with fail
    refine (implCallOk_val HV.out _).mono ?_
    rintro e y1 ⟨rfl, hb⟩
    have HK1 := Lib.hid (HK0.out.stay hb)
    clear hb HK0
    have bR := HK1.out.box (b := w.heap.size + 1) (T := 37) (vs := #[.int .i64 0, .int .i64 0, .int .i64 0, .int .i64 0, .int .i64 0, .slice none 0 0, .slice none 0 0, .int .i64 0]) (by simp)
    go_wp2_with (refine wpList_store_rowTo rfl 37 (.tmp 4) (.tmp 9) rfl rfl (w.heap.size + 1) #[.int .i64 0, .int .i64 0, .int .i64 0, .int .i64 0, .int .i64 0, .slice none 0 0, .slice none 0 0, .int .i64 0] rfl rfl 37 #[.int .i64 0, .int .i64 0, .int .i64 0, .int .i64 0, .int .i64 0, .slice none 0 0, .slice none 0 0, .int .i64 0] bR infoT8 rfl (one8' z8 ⟨none, 0, 0⟩ ⟨none, 0, 0⟩) ?_)
    refine bodyPost_ret (results_row_tmp Tryd.results108 _ _ (w.heap.size + 1) 37 (#[.int .i64 0, .int .i64 0, .int .i64 0, .int .i64 0, .int .i64 0, .slice none 0 0, .slice none 0 0, .int .i64 0]) _ rfl (setRow_box bR _) Tryd.underlying37 rfl infoT8) rfl ⟨z8, ⟨none, 0, 0⟩, ⟨none, 0, 0⟩, false, rfl, ?_, fun h => (by cases h), ?_⟩
    · rw [HV.out]; simp
    · exact HK1.out.1.trans (setRow_below (Nat.le_trans (Nat.le_succ _) (Nat.le_refl _)) _)
  · go_enter Tryd.func108, Tryd.ntmps108
    go_wp2_with fail
    refine (implCallOk_val HV.out _).mono ?_
    rintro e y1 ⟨rfl, hb⟩
    have HK1 := Lib.hid (HK0.out.stay hb)
    clear hb HK0
    have c1 := HK1.out.c (b := w.heap.size) (T := 67) (vs := c.cs) (by simp) 1 _ rfl
    go_wp2_with fail
    refine (procO l s c.r w _ HK1.out.1 HT.out HF.out hz).mono ?_
    rintro e y2 ⟨z, ss, qs, b1, rfl, g1, g2, hb⟩
    have HK2 := Lib.hid (HK1.out.stay hb)
    have G1 := Lib.hid g1
    have G2 := Lib.hid g2
    clear hb HK1 g1 g2 c1
    have bR := HK2.out.box (b := w.heap.size + 1) (T := 37) (vs := #[.int .i64 0, .int .i64 0, .int .i64 0, .int .i64 0, .int .i64 0, .slice none 0 0, .slice none 0 0, .int .i64 0]) (by simp)
    go_wp2_with (refine wpList_store_rowTo rfl 37 (.tmp 4) (.tmp 14) rfl rfl (w.heap.size + 1) (z.cs ss qs) rfl rfl 37 #[.int .i64 0, .int .i64 0, .int .i64 0, .int .i64 0, .int .i64 0, .slice none 0 0, .slice none 0 0, .int .i64 0] bR infoT8 rfl (one8' z ss qs) ?_)
    refine bodyPost_ret (results_row_tmp Tryd.results108 _ _ (w.heap.size + 1) 37 (z.cs ss qs) _ rfl (setRow_box bR _) Tryd.underlying37 rfl infoT8) rfl ⟨z, ss, qs, b1, rfl, ?_, ?_, ?_⟩
    · rw [HV.out, G1.out]; simp
    · intro h
      exact ⟨(G2.out h).1, (G2.out h).2.stay (HK2.out.1.trans (setRow_below (Nat.le_trans (Nat.le_succ _) (Nat.le_refl _)) _))⟩
    · exact HK2.out.1.trans (setRow_below (Nat.le_trans (Nat.le_succ _) (Nat.le_refl _)) _)

end Go.Proofs.YtpahahonopiblaaDoor
