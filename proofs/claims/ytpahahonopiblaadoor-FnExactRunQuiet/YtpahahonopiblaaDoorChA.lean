/-
  What a runner may know of, and what it may change: the program's and the model's small functions.
-/
import Derived.Test.YtpahahonopiblaaDoorLabF
import Derived.Test.YtpahahonopiblaaDoorTabL
import Derived.Test.YtpahahonopiblaaDoorThgI
namespace Go.Proofs.YtpahahonopiblaaDoor
open Go.RowKit
set_option linter.unusedVariables false
set_option maxRecDepth 100000

abbrev z8 : T8 := ⟨0, 0, 0, 0, 0, [], [], 0⟩
/-- The thing of a number. -/
def thAt (l : List T8) (n : Int) : T8 := (l[(n - 1).toNat]?).getD z8
theorem thAt_of {l : List T8} {n : Int} {j : Nat} (hj : j < l.length) (hn : n - 1 = j) : thAt l n = l[j] := by
  simp [thAt, hn, List.getElem?_eq_getElem hj]
/-- A number is that of a runner. -/
def isRun (l : List T8) (n : Int) : Bool := inR n 1 l.length && (thAt l n).kind == 3
/-- It flows from a thing to a runner; from a runner to a thing. -/
def seesT (p x : T8) : Bool := flow x.sec x.vou p.sec p.vou
def touT (p x : T8) : Bool := flow p.sec p.vou x.sec x.vou
def chkSees (l : List T8) (r n : Int) : Bool := tabOk l && (isRun l r && (inR n 1 l.length && seesT (thAt l r) (thAt l n)))
def chkTou (l : List T8) (r n : Int) : Bool := tabOk l && (isRun l r && (inR n 1 l.length && touT (thAt l r) (thAt l n)))
theorem tab_elem' {l : List T8} (h : tabOk l = true) {i : Nat} (hi : i < l.length) : elemOk l l[i] = true := by
  simp only [tabOk, Bool.and_eq_true] at h
  exact List.all_eq_true.1 h.1 _ (List.getElem_mem hi)
theorem tab_okT {l : List T8} (h : tabOk l = true) {i : Nat} (hi : i < l.length) : okT l[i] = true := by
  have := tab_elem' h hi
  simp only [elemOk, Bool.and_eq_true] at this
  exact this.1
theorem okT_lab {x : T8} (h : okT x = true) : okL x.sec x.vou = true := by
  simp only [okT, okT1, Bool.and_eq_true] at h
  exact h.1.2.1
theorem tab_len {l : List T8} (h : tabOk l = true) : 1 ≤ l.length ∧ l.length ≤ 8 := by
  simp only [tabOk, Bool.and_eq_true] at h
  have := h.2
  simp [inR] at this
  omega
theorem flow_ok {s v s2 v2 : Int} (h1 : okL s v = true) (h2 : okL s2 v2 = true) : flow s v s2 v2 = (sub2 s s2 && sub2 v2 v) := by simp [flow, h1, h2]
theorem idx_of {l : List T8} {n : Int} (h : inR n 1 l.length = true) : ∃ j : Nat, j < l.length ∧ n - 1 = j := by
  have : 1 ≤ n ∧ n ≤ l.length := by simpa [inR] using h
  exact ⟨(n - 1).toNat, by omega, by omega⟩
/-- A table that is not empty lies somewhere. -/
theorem HasT.ne {w : World} {s : Sl} {l : List T8} (h : HasT w s l) {j : Nat} (hj : j < l.length) : ∃ b o, s.a = some ⟨b, o, none⟩ ∧ Tb w b o l := by
  rcases h.2.2 with h0 | h0
  · subst h0; simp at hj
  · exact h0
theorem infoT8 : (Tryd.prog.info? 37).map (·.size) = some 8 := by kernel_rfl
theorem one8' (x : T8) (s q : Sl) : (x.cs s q).all (·.oneCell') = true := by simp [Value.oneCell']


set_option maxHeartbeats 4000000 in
theorem proc_no (l : List T8) (s : Sl) (n : Int) (w : World) (ht : HasT w s l) (hf : KF w) (hz : l.length ≤ 1048576) (h : (tabOk l && isRun l n) = false) :
    Calls Tryd.prog 119 #[.slice s.a s.n s.c, .int .i64 n] w fun e w' => e = .returned (.tuple #[.agg #[.int .i64 0, .int .i64 0, .int .i64 0, .int .i64 0, .int .i64 0, .slice none 0 0, .slice none 0 0, .int .i64 0], .bool false]) ∧ Below w.heap.size w w' := by
  have HK0 := Lib.hid ((Kn.refl (w := w)).new 37 #[.int .i64 0, .int .i64 0, .int .i64 0, .int .i64 0, .int .i64 0, .slice none 0 0, .slice none 0 0, .int .i64 0])
  have HT := Lib.hid ht
  have HF := Lib.hid hf
  clear ht hf
  cases h1 : tabOk l
  · have H1 := Lib.hid h1
    clear h1 h
    go_enter Tryd.func119, Tryd.ntmps119
    go_wp2_with fail
    refine (implTabOk_val H1.out _ (HT.out.stay HK0.out.1) (HF.out.stay HK0.out.1) hz).mono ?_
    rintro e y ⟨rfl, hb⟩
    have HK1 := Lib.hid (HK0.out.stay hb)
    clear hb HK0
    have bR := HK1.out.box (b := w.heap.size) (T := 37) (vs := #[.int .i64 0, .int .i64 0, .int .i64 0, .int .i64 0, .int .i64 0, .slice none 0 0, .slice none 0 0, .int .i64 0]) (by simp)
    go_wp2_with (refine wpList_store_rowTo rfl 37 (.tmp 4) (.tmp 11) rfl rfl w.heap.size #[.int .i64 0, .int .i64 0, .int .i64 0, .int .i64 0, .int .i64 0, .slice none 0 0, .slice none 0 0, .int .i64 0] rfl rfl 37 #[.int .i64 0, .int .i64 0, .int .i64 0, .int .i64 0, .int .i64 0, .slice none 0 0, .slice none 0 0, .int .i64 0] bR infoT8 rfl (one8' z8 ⟨none, 0, 0⟩ ⟨none, 0, 0⟩) ?_)
    refine bodyPost_ret (results_row_tmp Tryd.results119 _ _ w.heap.size 37 (#[.int .i64 0, .int .i64 0, .int .i64 0, .int .i64 0, .int .i64 0, .slice none 0 0, .slice none 0 0, .int .i64 0]) _ rfl (setRow_box bR _) Tryd.underlying37 rfl infoT8) rfl ⟨rfl, ?_⟩
    exact HK1.out.1.trans (setRow_below (Nat.le_refl _) _)
  have H1 := Lib.hid h1
  rw [h1, Bool.true_and] at h
  clear h1
  cases h2 : inR n 1 l.length
  · have HC := Lib.hid (fun y => thingAt_no n l.length s.a s.c h2 y)
    have HN := Lib.hid HT.out.1
    clear h h2
    go_enter Tryd.func119, Tryd.ntmps119
    go_wp2_with fail
    refine (implTabOk_val H1.out _ (HT.out.stay HK0.out.1) (HF.out.stay HK0.out.1) hz).mono ?_
    rintro e y ⟨rfl, hb⟩
    have HK1 := Lib.hid (HK0.out.stay hb)
    clear hb HK0
    go_wp2_with fail
    rw [HN.out]
    refine (HC.out _).mono ?_
    rintro e y2 ⟨rfl, hb⟩
    have HK2 := Lib.hid (HK1.out.stay hb)
    have HK3 := Lib.hid ((HK1.out.stay hb).new 37 #[.int .i64 0, .int .i64 0, .int .i64 0, .int .i64 0, .int .i64 0, .slice none 0 0, .slice none 0 0, .int .i64 0])
    clear hb HK1
    have hlt := (HK2.out.box (b := w.heap.size) (T := 37) (vs := #[.int .i64 0, .int .i64 0, .int .i64 0, .int .i64 0, .int .i64 0, .slice none 0 0, .slice none 0 0, .int .i64 0]) (by simp)).lt
    have bR := HK3.out.box (b := w.heap.size) (T := 37) (vs := #[.int .i64 0, .int .i64 0, .int .i64 0, .int .i64 0, .int .i64 0, .slice none 0 0, .slice none 0 0, .int .i64 0]) (by simp)
    go_wp2_with (refine wpList_store_rowTo rfl 37 (.tmp 4) (.tmp 25) rfl rfl w.heap.size #[.int .i64 0, .int .i64 0, .int .i64 0, .int .i64 0, .int .i64 0, .slice none 0 0, .slice none 0 0, .int .i64 0] rfl rfl 37 #[.int .i64 0, .int .i64 0, .int .i64 0, .int .i64 0, .int .i64 0, .slice none 0 0, .slice none 0 0, .int .i64 0] bR infoT8 rfl (one8' z8 ⟨none, 0, 0⟩ ⟨none, 0, 0⟩) ?_)
    refine bodyPost_ret (results_row_tmp Tryd.results119 _ _ w.heap.size 37 (#[.int .i64 0, .int .i64 0, .int .i64 0, .int .i64 0, .int .i64 0, .slice none 0 0, .slice none 0 0, .int .i64 0]) _ rfl (setRow_box bR _) Tryd.underlying37 rfl infoT8) rfl ⟨rfl, ?_⟩
    exact HK3.out.1.trans (setRow_below (Nat.le_refl _) _)
  · obtain ⟨j, hj, hn⟩ := idx_of h2
    have hk : (thAt l n).kind ≠ 3 := by simpa [isRun, h2] using h
    rw [thAt_of hj hn] at hk
    obtain ⟨b, o, ea, hTb⟩ := HT.out.ne hj
    obtain ⟨ss, qs, -, -, hA⟩ := hTb j hj
    have HC := Lib.hid (fun y (hA : At y b (o + j * 8) (l[j].cs ss qs)) => thingAt_yes l b o s.c n j hj hn hz ss qs y hA)
    have HA := Lib.hid hA
    have HN := Lib.hid HT.out.1
    have HE := Lib.hid ea
    clear h h2 hA hTb ea hn
    generalize l[j] = z at *
    have hk' : (z.kind == 3) = false := by simpa using hk
    go_enter Tryd.func119, Tryd.ntmps119
    go_wp2_with fail
    refine (implTabOk_val H1.out _ (HT.out.stay HK0.out.1) (HF.out.stay HK0.out.1) hz).mono ?_
    rintro e y ⟨rfl, hb⟩
    have HK1 := Lib.hid (HK0.out.stay hb)
    clear hb HK0
    go_wp2_with fail
    rw [HN.out, HE.out]
    refine (HC.out _ (HA.out.stay HK1.out.1)).mono ?_
    rintro e y2 ⟨rfl, hb⟩
    have HK2 := Lib.hid (HK1.out.stay hb)
    have HK3 := Lib.hid ((HK1.out.stay hb).new 37 (z.cs ss qs))
    clear hb HK1
    have hlt := (HK2.out.box (b := w.heap.size) (T := 37) (vs := #[.int .i64 0, .int .i64 0, .int .i64 0, .int .i64 0, .int .i64 0, .slice none 0 0, .slice none 0 0, .int .i64 0]) (by simp)).lt
    have bR := HK3.out.box (b := w.heap.size) (T := 37) (vs := #[.int .i64 0, .int .i64 0, .int .i64 0, .int .i64 0, .int .i64 0, .slice none 0 0, .slice none 0 0, .int .i64 0]) (by simp)
    go_wp2_with (refine wpList_store_rowTo rfl 37 (.tmp 4) (.tmp 25) rfl rfl w.heap.size #[.int .i64 0, .int .i64 0, .int .i64 0, .int .i64 0, .int .i64 0, .slice none 0 0, .slice none 0 0, .int .i64 0] rfl rfl 37 #[.int .i64 0, .int .i64 0, .int .i64 0, .int .i64 0, .int .i64 0, .slice none 0 0, .slice none 0 0, .int .i64 0] bR infoT8 rfl (one8' z8 ⟨none, 0, 0⟩ ⟨none, 0, 0⟩) ?_)
    refine bodyPost_ret (results_row_tmp Tryd.results119 _ _ w.heap.size 37 (#[.int .i64 0, .int .i64 0, .int .i64 0, .int .i64 0, .int .i64 0, .slice none 0 0, .slice none 0 0, .int .i64 0]) _ rfl (setRow_box bR _) Tryd.underlying37 rfl infoT8) rfl ⟨rfl, ?_⟩
    exact HK3.out.1.trans (setRow_below (Nat.le_refl _) _)

set_option maxHeartbeats 4000000 in
theorem proc_yes (l : List T8) (s : Sl) (n : Int) (j : Nat) (hj : j < l.length) (hn : n - 1 = j) (b o : Nat) (ea : s.a = some ⟨b, o, none⟩) (ss qs : Sl) (w : World) (hA : At w b (o + j * 8) (l[j].cs ss qs)) (ht : HasT w s l) (hf : KF w) (hz : l.length ≤ 1048576) (h1 : tabOk l = true) (hk : l[j].kind = 3) :
    Calls Tryd.prog 119 #[.slice s.a s.n s.c, .int .i64 n] w fun e w' => e = .returned (.tuple #[l[j].val ss qs, .bool true]) ∧ Below w.heap.size w w' := by
    have HK0 := Lib.hid ((Kn.refl (w := w)).new 37 #[.int .i64 0, .int .i64 0, .int .i64 0, .int .i64 0, .int .i64 0, .slice none 0 0, .slice none 0 0, .int .i64 0])
    have HT := Lib.hid ht
    have HF := Lib.hid hf
    have H1 := Lib.hid h1
    have HC := Lib.hid (fun y (hA : At y b (o + j * 8) (l[j].cs ss qs)) => thingAt_yes l b o s.c n j hj hn hz ss qs y hA)
    have HA := Lib.hid hA
    have HN := Lib.hid HT.out.1
    have HE := Lib.hid ea
    clear ht hf h1 hA ea hn
    generalize l[j] = z at *
    have hk' : (z.kind == 3) = true := by simpa using hk
    clear hk
    go_enter Tryd.func119, Tryd.ntmps119
    go_wp2_with fail
    refine (implTabOk_val H1.out _ (HT.out.stay HK0.out.1) (HF.out.stay HK0.out.1) hz).mono ?_
    rintro e y ⟨rfl, hb⟩
    have HK1 := Lib.hid (HK0.out.stay hb)
    clear hb HK0
    go_wp2_with fail
    rw [HN.out, HE.out]
    refine (HC.out _ (HA.out.stay HK1.out.1)).mono ?_
    rintro e y2 ⟨rfl, hb⟩
    have HK2 := Lib.hid (HK1.out.stay hb)
    have HK3 := Lib.hid ((HK1.out.stay hb).new 37 (z.cs ss qs))
    clear hb HK1
    have hlt := (HK2.out.box (b := w.heap.size) (T := 37) (vs := #[.int .i64 0, .int .i64 0, .int .i64 0, .int .i64 0, .int .i64 0, .slice none 0 0, .slice none 0 0, .int .i64 0]) (by simp)).lt
    have bR := HK3.out.box (b := w.heap.size) (T := 37) (vs := #[.int .i64 0, .int .i64 0, .int .i64 0, .int .i64 0, .int .i64 0, .slice none 0 0, .slice none 0 0, .int .i64 0]) (by simp)
    go_wp2_with (refine wpList_store_rowTo rfl 37 (.tmp 4) (.tmp 26) rfl rfl w.heap.size (z.cs ss qs) rfl rfl 37 #[.int .i64 0, .int .i64 0, .int .i64 0, .int .i64 0, .int .i64 0, .slice none 0 0, .slice none 0 0, .int .i64 0] bR infoT8 rfl (one8' z ss qs) ?_)
    refine bodyPost_ret (results_row_tmp Tryd.results119 _ _ w.heap.size 37 (z.cs ss qs) _ rfl (setRow_box bR _) Tryd.underlying37 rfl infoT8) rfl ⟨rfl, ?_⟩
    exact HK3.out.1.trans (setRow_below (Nat.le_refl _) _)
end Go.Proofs.YtpahahonopiblaaDoor
