/-
  The program's TableOk whole, and its TableLive.
-/
import Derived.Test.YtpahahonopiblaaDoorThgH
namespace Go.Proofs.YtpahahonopiblaaDoor
open Go.RowKit
set_option linter.unusedVariables false

set_option maxRecDepth 100000 in
set_option maxHeartbeats 2000000 in
theorem implTabOk_nil (a : Option Addr) (c : Nat) (w : World) :
    Calls Tryd.prog 23 #[.slice a 0 c] w fun e w' => e = .returned (.bool (tabOk [])) ∧ Below w.heap.size w w' := by
  go_enter Tryd.func23, Tryd.ntmps23
  go_wp2
  refine bodyPost_ret (v := .bool false) (by simp [results, Tryd.results23, go_sem]) rfl ⟨rfl, ?_⟩
  exact ((Below.refl _ _).alloc (Nat.le_refl _) _).alloc (by simp) _

theorem implTabOk_any (l : List T8) (s : Sl) (w : World) (ht : HasT w s l) (hf : KF w) (hz : l.length ≤ 1048576) :
    Calls Tryd.prog 23 #[.slice s.a s.n s.c] w fun e w' => e = .returned (.bool (tabOk l)) ∧ Below w.heap.size w w' := by
  obtain ⟨h1, h2, h3⟩ := ht
  rcases h3 with rfl | ⟨b, o, e, h3⟩
  · rw [h1]; exact implTabOk_nil s.a s.c w
  · rw [h1, e, tab_eq]; exact implTabOk_ne l b o s.c w h3 hf hz
theorem implTabOk_val {l : List T8} {s : Sl} {v : Bool} (h : tabOk l = v) (w : World) (ht : HasT w s l) (hf : KF w) (hz : l.length ≤ 1048576) :
    Calls Tryd.prog 23 #[.slice s.a s.n s.c] w fun e w' => e = .returned (.bool v) ∧ Below w.heap.size w w' := by
  subst h; exact implTabOk_any l s w ht hf hz

set_option maxRecDepth 100000 in
set_option maxHeartbeats 2000000 in
theorem implTabLive_any (l : List T8) (s : Sl) (r : R5) (w : World) (ht : HasT w s l) (hf : KF w) (hz : l.length ≤ 1048576) :
    Calls Tryd.prog 24 #[.slice s.a s.n s.c, rgt r.t r.v r.r r.w r.k] w fun e w' => e = .returned (.bool (tabLive l r)) ∧ Below w.heap.size w w' := by
  have HK := Lib.hid ((Kn.refl (w := w)).new 44 r.cs)
  have HT := Lib.hid ht
  have HF := Lib.hid hf
  clear ht hf
  cases h1 : tabOk l
  · have H1 := Lib.hid h1
    clear h1
    go_enter Tryd.func24, Tryd.ntmps24
    go_wp2_with fail
    refine (implTabOk_val H1.out _ (HT.out.stay HK.out.1) (HF.out.stay HK.out.1) hz).mono ?_
    rintro e y ⟨rfl, hb⟩
    have HK1 := Lib.hid (HK.out.stay hb)
    clear hb HK
    go_wp2
    go_ret
    exact ⟨by simp [tabLive, H1.out], HK1.out.1⟩
  have H1 := Lib.hid h1
  clear h1
  cases h2 : r.ok
  · have H2 := Lib.hid h2
    clear h2
    go_enter Tryd.func24, Tryd.ntmps24
    go_wp2_with fail
    refine (implTabOk_val H1.out _ (HT.out.stay HK.out.1) (HF.out.stay HK.out.1) hz).mono ?_
    rintro e y ⟨rfl, hb⟩
    have HK1 := Lib.hid (HK.out.stay hb)
    clear hb HK
    have q0 := HK1.out.c (b := w.heap.size) (T := 44) (vs := r.cs) (by simp) 0 _ rfl
    have q1 := HK1.out.c (b := w.heap.size) (T := 44) (vs := r.cs) (by simp) 1 _ rfl
    have q2 := HK1.out.c (b := w.heap.size) (T := 44) (vs := r.cs) (by simp) 2 _ rfl
    have q3 := HK1.out.c (b := w.heap.size) (T := 44) (vs := r.cs) (by simp) 3 _ rfl
    have q4 := HK1.out.c (b := w.heap.size) (T := 44) (vs := r.cs) (by simp) 4 _ rfl
    go_wp2_with fail
    refine (implROk_val H2.out _).mono ?_
    rintro e y2 ⟨rfl, hb⟩
    have HK2 := Lib.hid (HK1.out.stay hb)
    clear hb HK1 q0 q1 q2 q3 q4
    go_wp2
    go_ret
    exact ⟨by simp [tabLive, H1.out, H2.out], HK2.out.1⟩
  have H2 := Lib.hid h2
  clear h2
  go_enter Tryd.func24, Tryd.ntmps24
  go_wp2_with fail
  refine (implTabOk_val H1.out _ (HT.out.stay HK.out.1) (HF.out.stay HK.out.1) hz).mono ?_
  rintro e y ⟨rfl, hb⟩
  have HK1 := Lib.hid (HK.out.stay hb)
  clear hb HK
  have q0 := HK1.out.c (b := w.heap.size) (T := 44) (vs := r.cs) (by simp) 0 _ rfl
  have q1 := HK1.out.c (b := w.heap.size) (T := 44) (vs := r.cs) (by simp) 1 _ rfl
  have q2 := HK1.out.c (b := w.heap.size) (T := 44) (vs := r.cs) (by simp) 2 _ rfl
  have q3 := HK1.out.c (b := w.heap.size) (T := 44) (vs := r.cs) (by simp) 3 _ rfl
  have q4 := HK1.out.c (b := w.heap.size) (T := 44) (vs := r.cs) (by simp) 4 _ rfl
  go_wp2_with fail
  refine (implROk_val H2.out _).mono ?_
  rintro e y2 ⟨rfl, hb⟩
  have HK2 := Lib.hid (HK1.out.stay hb)
  clear hb HK1 q0 q1 q2 q3 q4
  have q0 := HK2.out.c (b := w.heap.size) (T := 44) (vs := r.cs) (by simp) 0 _ rfl
  have q1 := HK2.out.c (b := w.heap.size) (T := 44) (vs := r.cs) (by simp) 1 _ rfl
  have q2 := HK2.out.c (b := w.heap.size) (T := 44) (vs := r.cs) (by simp) 2 _ rfl
  have q3 := HK2.out.c (b := w.heap.size) (T := 44) (vs := r.cs) (by simp) 3 _ rfl
  have q4 := HK2.out.c (b := w.heap.size) (T := 44) (vs := r.cs) (by simp) 4 _ rfl
  cases h3 : inR r.t 1 l.length
  · have H3 := Lib.hid h3
    have HC := Lib.hid (thingAt_no r.t l.length s.a s.c h3 y2)
    have HN := Lib.hid HT.out.1
    clear h3
    go_wp2_with fail
    rw [HN.out]
    refine HC.out.mono ?_
    rintro e y3 ⟨rfl, hb⟩
    have HK3 := Lib.hid (HK2.out.stay hb)
    clear hb HK2 q0 q1 q2 q3 q4
    go_wp2
    go_ret
    exact ⟨by simp [tabLive, H1.out, H2.out, liveB, H3.out], (HK3.out.past _).1⟩
  · obtain ⟨p1, p2⟩ : 1 ≤ r.t ∧ r.t ≤ l.length := by simpa [inR] using h3
    obtain ⟨j, hj⟩ : ∃ j : Nat, r.t - 1 = j := ⟨(r.t - 1).toNat, by omega⟩
    have hjl : j < l.length := by omega
    rcases HT.out.2.2 with rfl | ⟨b, o, e, h⟩
    · simp at hjl
    obtain ⟨ss, qs, -, -, hA⟩ := (h.stay HK2.out.1) j hjl
    have HA := Lib.hid (show tabLive l r = (r.v == l[j].vers) by simp [tabLive, H1.out, H2.out, liveB, h3, versAt_of hjl hj]; rw [Bool.eq_iff_iff]; simp; exact eq_comm)
    have HC := Lib.hid (thingAt_yes l b o s.c r.t j hjl hj hz ss qs y2 hA)
    have HN := Lib.hid HT.out.1
    have HE := Lib.hid e
    clear h3 p1 p2 hj hA h e
    generalize l[j] = z at *
    go_wp2_with fail
    rw [HN.out, HE.out]
    refine HC.out.mono ?_
    rintro e y3 ⟨rfl, hb⟩
    have HK3 := Lib.hid (HK2.out.stay hb)
    clear hb HK2 q0 q1 q2 q3 q4 HC
    have q1 := HK3.out.c (b := w.heap.size) (T := 44) (vs := r.cs) (by simp) 1 _ rfl
    have hlt := (HK3.out.box (b := w.heap.size) (T := 44) (vs := r.cs) (by simp)).lt
    go_wp2
    go_ret
    exact ⟨by rw [HA.out]; rfl, (HK3.out.past _).1⟩
end Go.Proofs.YtpahahonopiblaaDoor
