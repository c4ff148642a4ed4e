/-
  Whether two copies are the same; how much came in.
-/
import Derived.Test.YtpahahonopiblaaDoorCp
import Derived.Test.YtpahahonopiblaaDoorToLab
import Derived.Deep.Cut
import Derived.Deep.QuietTactic
import Derived.BigQuiet
namespace Go.Proofs.YtpahahonopiblaaDoor
open Go.RowKit
set_option linter.unusedVariables false


set_option maxHeartbeats 2000000 in
theorem eqRightS_ne (l : List R5) (b o c b2 o2 c2 : Nat) (w : World) (h1 : ∀ i (h : i < l.length), At w b (o + i * 5) (l[i]).cs) (h2 : ∀ i (h : i < l.length), At w b2 (o2 + i * 5) (l[i]).cs) (hz : l.length ≤ 1048576) :
    Calls Tryd.prog 93 #[.slice (some ⟨b, o, none⟩) l.length c, .slice (some ⟨b2, o2, none⟩) l.length c2] w fun e w' => e = .returned (.bool true) ∧ Below w.heap.size w w' := by
  have H1 := Lib.hid h1
  have H2 := Lib.hid h2
  clear h1 h2
  go_enter Tryd.func93, Tryd.ntmps93
  go_wp2
  go_loopw [5] (fun i wr => ∃ k : Nat, k ≤ l.length ∧ i = .int .i64 k ∧ Below w.heap.size w wr) (fun i _ => l.length - (intOf i).toNat)
  case atStart => exact ⟨0, by omega, rfl, Below.refl _ _⟩
  case round =>
    obtain ⟨k, hk, rfl, B0⟩ := hrel
    have HB := Lib.hid B0
    clear B0
    by_cases hlt : k < l.length
    · have hlt' : (k : Int) < (l.length : Int) := by omega
      have hc := (H1.out k hlt).stay HB.out
      have hd := (H2.out k hlt).stay HB.out
      have c0 : wr.cell? ⟨b, o + k * 5, none⟩ = some (.int .i64 (l[k]).t) := hc 0 _ rfl
      have c1 : wr.cell? ⟨b, o + k * 5 + 1, none⟩ = some (.int .i64 (l[k]).v) := hc 1 _ rfl
      have c2 : wr.cell? ⟨b, o + k * 5 + 2, none⟩ = some (.bool (l[k]).r) := hc 2 _ rfl
      have c3 : wr.cell? ⟨b, o + k * 5 + 3, none⟩ = some (.bool (l[k]).w) := hc 3 _ rfl
      have c4 : wr.cell? ⟨b, o + k * 5 + 4, none⟩ = some (.bool (l[k]).k) := hc 4 _ rfl
      have d0 : wr.cell? ⟨b2, o2 + k * 5, none⟩ = some (.int .i64 (l[k]).t) := hd 0 _ rfl
      have d1 : wr.cell? ⟨b2, o2 + k * 5 + 1, none⟩ = some (.int .i64 (l[k]).v) := hd 1 _ rfl
      have d2 : wr.cell? ⟨b2, o2 + k * 5 + 2, none⟩ = some (.bool (l[k]).r) := hd 2 _ rfl
      have d3 : wr.cell? ⟨b2, o2 + k * 5 + 3, none⟩ = some (.bool (l[k]).w) := hd 3 _ rfl
      have d4 : wr.cell? ⟨b2, o2 + k * 5 + 4, none⟩ = some (.bool (l[k]).k) := hd 4 _ rfl
      clear hc hd
      have cc0 := fun zz : Wd (Kn wr []) => stayCell c0 zz.ok.1
      have cc1 := fun zz : Wd (Kn wr []) => stayCell c1 zz.ok.1
      have cc2 := fun zz : Wd (Kn wr []) => stayCell c2 zz.ok.1
      have cc3 := fun zz : Wd (Kn wr []) => stayCell c3 zz.ok.1
      have cc4 := fun zz : Wd (Kn wr []) => stayCell c4 zz.ok.1
      have dd0 := fun zz : Wd (Kn wr []) => stayCell d0 zz.ok.1
      have dd1 := fun zz : Wd (Kn wr []) => stayCell d1 zz.ok.1
      have dd2 := fun zz : Wd (Kn wr []) => stayCell d2 zz.ok.1
      have dd3 := fun zz : Wd (Kn wr []) => stayCell d3 zz.ok.1
      have dd4 := fun zz : Wd (Kn wr []) => stayCell d4 zz.ok.1
      have ne : Nonempty (Wd (Kn wr [])) := ⟨⟨_, (Kn.refl (w := wr)).drew⟩⟩
      clear c0 d0 c1 d1 c2 d2 c3 d3 c4 d4
      go_upto_region 6 with fail
      refine wp_region_quiet (C := fun y => ∃ zz : Wd (Kn wr []), y = zz.w) (by kernel_rfl) (by kernel_rfl) ⟨⟨_, (Kn.refl (w := wr)).drew⟩, rfl⟩ ?_
      show wpQuiet _ _ _ _ [_, _, _, _, _, _, _, _, _, _] _
      repeat (first | go_big_quiet_step ((go_at_call 116; with_reducible exact inCls Kn.stay (eqRight_same _ _ _ _ _ _))) | quiet_step ((go_at_call 116; with_reducible exact inCls Kn.stay (eqRight_same _ _ _ _ _ _))))
      refine wpQuiet_nil ?_
      rintro _ ⟨⟨y, K2⟩, rfl⟩
      have HB2 := Lib.hid (HB.out.trans (K2.1.mono HB.out.size))
      clear ne cc0 dd0 cc1 dd1 cc2 dd2 cc3 dd3 cc4 dd4 K2
      go_wp2
      go_roundw
      case rel => exact ⟨k + 1, by omega, by go_num, HB2.out⟩
      case measure => simp [intOf]; omega
    · have hlt' : ¬ (k : Int) < (l.length : Int) := by omega
      go_wp2
      go_ret
      exact ⟨rfl, HB.out⟩
set_option maxHeartbeats 1000000 in
theorem eqRightS_nil (a : Option Addr) (c : Nat) (a2 : Option Addr) (c2 : Nat) (w : World) :
    Calls Tryd.prog 93 #[.slice a 0 c, .slice a2 0 c2] w fun e w' => e = .returned (.bool true) ∧ Below w.heap.size w w' := by
  go_enter Tryd.func93, Tryd.ntmps93
  go_wp2
  go_loop [5] (fun i => i = .int .i64 0) (fun _ => 0)
  case atStart => rfl
  case round =>
    subst hrel
    go_wp2
    go_ret
    exact ⟨rfl, Below.refl _ _⟩
theorem eqRightS_same (l : List R5) (s s2 : Sl) (w : World) (h : HasR w s l) (h2 : HasR w s2 l) (hz : l.length ≤ 1048576) :
    Calls Tryd.prog 93 #[.slice s.a s.n s.c, .slice s2.a s2.n s2.c] w fun e w' => e = .returned (.bool true) ∧ Below w.heap.size w w' := by
  rw [h.len, h2.len]
  by_cases hl : l = []
  · subst hl
    exact eqRightS_nil _ _ _ _ w
  · have g : ∀ {s : Sl}, HasR w s l → ∃ b o, s.a = some ⟨b, o, none⟩ ∧ ∀ i (h : i < l.length), At w b (o + i * 5) (l[i]).cs := by
      intro s h
      rcases h.2.2 with h0 | ⟨b, o, e, h3⟩
      · exact absurd (by simpa using h0) hl
      · exact ⟨b, o, e, fun i hi => h3 i _ (by simp [List.getElem?_eq_getElem hi])⟩
    obtain ⟨b, o, e1, a1⟩ := g h
    obtain ⟨b2, o2, e2, a2⟩ := g h2
    rw [e1, e2]
    exact eqRightS_ne l b o s.c b2 o2 s2.c w a1 a2 hz

set_option maxHeartbeats 2000000 in
theorem eqIntS_ne (l : List Int) (b o c b2 o2 c2 : Nat) (w : World) (h1 : ∀ i (h : i < l.length), w.cell? ⟨b, o + i, none⟩ = some (.int .i64 l[i])) (h2 : ∀ i (h : i < l.length), w.cell? ⟨b2, o2 + i, none⟩ = some (.int .i64 l[i])) (hz : l.length ≤ 1048576) :
    Calls Tryd.prog 94 #[.slice (some ⟨b, o, none⟩) l.length c, .slice (some ⟨b2, o2, none⟩) l.length c2] w fun e w' => e = .returned (.bool true) ∧ Below w.heap.size w w' := by
  have H1 := Lib.hid h1
  have H2 := Lib.hid h2
  clear h1 h2
  go_enter Tryd.func94, Tryd.ntmps94
  go_wp2
  go_loopw [5] (fun i wr => ∃ k : Nat, k ≤ l.length ∧ i = .int .i64 k ∧ Below w.heap.size w wr) (fun i _ => l.length - (intOf i).toNat)
  case atStart => exact ⟨0, by omega, rfl, Below.refl _ _⟩
  case round =>
    obtain ⟨k, hk, rfl, B0⟩ := hrel
    have HB := Lib.hid B0
    clear B0
    by_cases hlt : k < l.length
    · have hlt' : (k : Int) < (l.length : Int) := by omega
      have hc := stayCell (H1.out k hlt) HB.out
      have hd := stayCell (H2.out k hlt) HB.out
      have c0 : wr.cell? ⟨b, o + k, none⟩ = some (.int .i64 l[k]) := hc
      have d0 : wr.cell? ⟨b2, o2 + k, none⟩ = some (.int .i64 l[k]) := hd
      clear hc hd
      go_upto_region 6 with fail
      go_quiet (fail)
      have HB2 := Lib.hid (HB.out.trans (Below.mono (drewNB (Below.refl wr.heap.size wr) nq) HB.out.size))
      go_wp2
      go_roundw
      case rel => exact ⟨k + 1, by omega, by go_num, HB2.out⟩
      case measure => simp [intOf]; omega
    · have hlt' : ¬ (k : Int) < (l.length : Int) := by omega
      go_wp2
      go_ret
      exact ⟨rfl, HB.out⟩
set_option maxHeartbeats 1000000 in
theorem eqIntS_nil (a : Option Addr) (c : Nat) (a2 : Option Addr) (c2 : Nat) (w : World) :
    Calls Tryd.prog 94 #[.slice a 0 c, .slice a2 0 c2] w fun e w' => e = .returned (.bool true) ∧ Below w.heap.size w w' := by
  go_enter Tryd.func94, Tryd.ntmps94
  go_wp2
  go_loop [5] (fun i => i = .int .i64 0) (fun _ => 0)
  case atStart => rfl
  case round =>
    subst hrel
    go_wp2
    go_ret
    exact ⟨rfl, Below.refl _ _⟩
theorem eqIntS_same (l : List Int) (s s2 : Sl) (w : World) (h : HasQ w s l) (h2 : HasQ w s2 l) (hz : l.length ≤ 1048576) :
    Calls Tryd.prog 94 #[.slice s.a s.n s.c, .slice s2.a s2.n s2.c] w fun e w' => e = .returned (.bool true) ∧ Below w.heap.size w w' := by
  rw [h.len, h2.len]
  by_cases hl : l = []
  · subst hl
    exact eqIntS_nil _ _ _ _ w
  · have g : ∀ {s : Sl}, HasQ w s l → ∃ b o, s.a = some ⟨b, o, none⟩ ∧ ∀ i (h : i < l.length), w.cell? ⟨b, o + i, none⟩ = some (.int .i64 l[i]) := by
      intro s h
      rcases h.2.2 with h0 | ⟨b, o, e, h3⟩
      · exact absurd (by simpa using h0) hl
      · exact ⟨b, o, e, fun i hi => by have := h3 i #[.int .i64 l[i]] (by simp [List.getElem?_eq_getElem hi]) 0 _ rfl; simpa using this⟩
    obtain ⟨b, o, e1, a1⟩ := g h
    obtain ⟨b2, o2, e2, a2⟩ := g h2
    rw [e1, e2]
    exact eqIntS_ne l b o s.c b2 o2 s2.c w a1 a2 hz

set_option maxHeartbeats 1000000 in
theorem eqLabel_same (s v : Int) (w : World) :
    Calls Tryd.prog 92 #[lab s v, lab s v] w fun e w' => e = .returned (.bool true) ∧ Below w.heap.size w w' := by
  go_enter Tryd.func92, Tryd.ntmps92
  go_wp2
  go_ret
  exact ⟨rfl, ((Below.refl _ _).alloc (Nat.le_refl _) _).alloc (by simp) _⟩

set_option maxRecDepth 100000 in
set_option maxHeartbeats 2000000 in
theorem eqThing_same (x : T8) (s q s2 q2 : Sl) (w : World) (hs : HasR w s x.slots) (hq : HasQ w q x.queue) (hs2 : HasR w s2 x.slots) (hq2 : HasQ w q2 x.queue) (hz : x.slots.length ≤ 1048576) (hzq : x.queue.length ≤ 1048576) :
    Calls Tryd.prog 50 #[x.val s q, x.val s2 q2] w fun e w' => e = .returned (.bool true) ∧ Below w.heap.size w w' := by
  have K0 : Kn w [(w.heap.size, 37, x.cs s q), (w.heap.size + 1, 37, x.cs s2 q2)] ((w.alloc (.cells (x.cs s q) 37)).alloc (.cells (x.cs s2 q2) 37)) := by
    have h := ((Kn.refl (w := w)).new 37 (x.cs s q)).new 37 (x.cs s2 q2)
    rw [show (w.alloc (.cells (x.cs s q) 37)).heap.size = w.heap.size + 1 by simp] at h
    exact h.less (by simp)
  have HS := Lib.hid hs
  have HQ := Lib.hid hq
  have HS2 := Lib.hid hs2
  have HQ2 := Lib.hid hq2
  have HZ := Lib.hid hz
  have HZQ := Lib.hid hzq
  clear hs hq hs2 hq2 hz hzq
  go_enter Tryd.func50, Tryd.ntmps50
  go_wp2_with fail
  refine (eqLabel_same _ _ _).mono ?_
  rintro e y1 ⟨rfl, hb⟩
  have K1 := K0.stay hb
  clear hb K0
  have c0 := K1.c (b := w.heap.size) (T := 37) (vs := x.cs s q) (by simp) 0 _ rfl
  have c1 := K1.c (b := w.heap.size) (T := 37) (vs := x.cs s q) (by simp) 1 _ rfl
  have c2 := K1.c (b := w.heap.size) (T := 37) (vs := x.cs s q) (by simp) 2 _ rfl
  have c3 := K1.c (b := w.heap.size) (T := 37) (vs := x.cs s q) (by simp) 3 _ rfl
  have c4 := K1.c (b := w.heap.size) (T := 37) (vs := x.cs s q) (by simp) 4 _ rfl
  have c5 := K1.c (b := w.heap.size) (T := 37) (vs := x.cs s q) (by simp) 5 _ rfl
  have c6 := K1.c (b := w.heap.size) (T := 37) (vs := x.cs s q) (by simp) 6 _ rfl
  have c7 := K1.c (b := w.heap.size) (T := 37) (vs := x.cs s q) (by simp) 7 _ rfl
  have d0 := K1.c (b := w.heap.size + 1) (T := 37) (vs := x.cs s2 q2) (by simp) 0 _ rfl
  have d1 := K1.c (b := w.heap.size + 1) (T := 37) (vs := x.cs s2 q2) (by simp) 1 _ rfl
  have d2 := K1.c (b := w.heap.size + 1) (T := 37) (vs := x.cs s2 q2) (by simp) 2 _ rfl
  have d3 := K1.c (b := w.heap.size + 1) (T := 37) (vs := x.cs s2 q2) (by simp) 3 _ rfl
  have d4 := K1.c (b := w.heap.size + 1) (T := 37) (vs := x.cs s2 q2) (by simp) 4 _ rfl
  have d5 := K1.c (b := w.heap.size + 1) (T := 37) (vs := x.cs s2 q2) (by simp) 5 _ rfl
  have d6 := K1.c (b := w.heap.size + 1) (T := 37) (vs := x.cs s2 q2) (by simp) 6 _ rfl
  have d7 := K1.c (b := w.heap.size + 1) (T := 37) (vs := x.cs s2 q2) (by simp) 7 _ rfl
  have HK1 := Lib.hid K1
  clear K1
  go_wp2_with fail
  refine (eqRightS_same x.slots s s2 _ (HS.out.stay HK1.out.1) (HS2.out.stay HK1.out.1) HZ.out).mono ?_
  rintro e y2 ⟨rfl, hb⟩
  have K2 := HK1.out.stay hb
  clear c0 d0 c1 d1 c2 d2 c3 d3 c4 d4 c5 d5 c6 d6 c7 d7
  clear hb HK1
  have c0 := K2.c (b := w.heap.size) (T := 37) (vs := x.cs s q) (by simp) 0 _ rfl
  have c1 := K2.c (b := w.heap.size) (T := 37) (vs := x.cs s q) (by simp) 1 _ rfl
  have c2 := K2.c (b := w.heap.size) (T := 37) (vs := x.cs s q) (by simp) 2 _ rfl
  have c3 := K2.c (b := w.heap.size) (T := 37) (vs := x.cs s q) (by simp) 3 _ rfl
  have c4 := K2.c (b := w.heap.size) (T := 37) (vs := x.cs s q) (by simp) 4 _ rfl
  have c5 := K2.c (b := w.heap.size) (T := 37) (vs := x.cs s q) (by simp) 5 _ rfl
  have c6 := K2.c (b := w.heap.size) (T := 37) (vs := x.cs s q) (by simp) 6 _ rfl
  have c7 := K2.c (b := w.heap.size) (T := 37) (vs := x.cs s q) (by simp) 7 _ rfl
  have d0 := K2.c (b := w.heap.size + 1) (T := 37) (vs := x.cs s2 q2) (by simp) 0 _ rfl
  have d1 := K2.c (b := w.heap.size + 1) (T := 37) (vs := x.cs s2 q2) (by simp) 1 _ rfl
  have d2 := K2.c (b := w.heap.size + 1) (T := 37) (vs := x.cs s2 q2) (by simp) 2 _ rfl
  have d3 := K2.c (b := w.heap.size + 1) (T := 37) (vs := x.cs s2 q2) (by simp) 3 _ rfl
  have d4 := K2.c (b := w.heap.size + 1) (T := 37) (vs := x.cs s2 q2) (by simp) 4 _ rfl
  have d5 := K2.c (b := w.heap.size + 1) (T := 37) (vs := x.cs s2 q2) (by simp) 5 _ rfl
  have d6 := K2.c (b := w.heap.size + 1) (T := 37) (vs := x.cs s2 q2) (by simp) 6 _ rfl
  have d7 := K2.c (b := w.heap.size + 1) (T := 37) (vs := x.cs s2 q2) (by simp) 7 _ rfl
  have HK2 := Lib.hid K2
  clear K2
  go_wp2_with fail
  refine (eqIntS_same x.queue q q2 _ (HQ.out.stay HK2.out.1) (HQ2.out.stay HK2.out.1) HZQ.out).mono ?_
  rintro e y3 ⟨rfl, hb⟩
  have K3 := HK2.out.stay hb
  clear c0 d0 c1 d1 c2 d2 c3 d3 c4 d4 c5 d5 c6 d6 c7 d7
  clear hb HK2
  have c0 := K3.c (b := w.heap.size) (T := 37) (vs := x.cs s q) (by simp) 0 _ rfl
  have c1 := K3.c (b := w.heap.size) (T := 37) (vs := x.cs s q) (by simp) 1 _ rfl
  have c2 := K3.c (b := w.heap.size) (T := 37) (vs := x.cs s q) (by simp) 2 _ rfl
  have c3 := K3.c (b := w.heap.size) (T := 37) (vs := x.cs s q) (by simp) 3 _ rfl
  have c4 := K3.c (b := w.heap.size) (T := 37) (vs := x.cs s q) (by simp) 4 _ rfl
  have c5 := K3.c (b := w.heap.size) (T := 37) (vs := x.cs s q) (by simp) 5 _ rfl
  have c6 := K3.c (b := w.heap.size) (T := 37) (vs := x.cs s q) (by simp) 6 _ rfl
  have c7 := K3.c (b := w.heap.size) (T := 37) (vs := x.cs s q) (by simp) 7 _ rfl
  have d0 := K3.c (b := w.heap.size + 1) (T := 37) (vs := x.cs s2 q2) (by simp) 0 _ rfl
  have d1 := K3.c (b := w.heap.size + 1) (T := 37) (vs := x.cs s2 q2) (by simp) 1 _ rfl
  have d2 := K3.c (b := w.heap.size + 1) (T := 37) (vs := x.cs s2 q2) (by simp) 2 _ rfl
  have d3 := K3.c (b := w.heap.size + 1) (T := 37) (vs := x.cs s2 q2) (by simp) 3 _ rfl
  have d4 := K3.c (b := w.heap.size + 1) (T := 37) (vs := x.cs s2 q2) (by simp) 4 _ rfl
  have d5 := K3.c (b := w.heap.size + 1) (T := 37) (vs := x.cs s2 q2) (by simp) 5 _ rfl
  have d6 := K3.c (b := w.heap.size + 1) (T := 37) (vs := x.cs s2 q2) (by simp) 6 _ rfl
  have d7 := K3.c (b := w.heap.size + 1) (T := 37) (vs := x.cs s2 q2) (by simp) 7 _ rfl
  have HK3 := Lib.hid K3
  clear K3
  go_wp2
  go_ret
  exact ⟨rfl, HK3.out.1⟩

/-- What is left of a measure. -/
def szV (L : Int) (n : Nat) : Int := if L - n < 0 then -1 else L - n
def szT (L : Int) (a b : Nat) : Int := if szV L a < 0 then -1 else szV (szV L a) b
theorem szV_le {L : Int} {n : Nat} (h : ¬ szV L n < 0) : szV L n = L - n ∧ (n : Int) ≤ L := by
  unfold szV at *
  split at h
  · omega
  · rename_i g; rw [if_neg g]; omega
theorem szT_le {L : Int} {a b : Nat} (h : ¬ szT L a b < 0) : szT L a b = L - a - b ∧ (a : Int) + b ≤ L := by
  unfold szT at *
  split at h
  · omega
  · rename_i g
    rw [if_neg g]
    obtain ⟨h1, h2⟩ := szV_le g
    obtain ⟨h3, h4⟩ := szV_le h
    omega

set_option maxHeartbeats 400000 in
theorem szRightS_any (s : Sl) (L : Int) (w : World) (hn : s.n ≤ 9223372036854775807) (h0 : 0 ≤ L) (h1 : L ≤ 1048576) :
    Calls Tryd.prog 83 #[.slice s.a s.n s.c, .int .i64 L] w fun e w' => e = .returned (.int .i64 (szV L s.n)) ∧ w = w' := by
  have hw : wrap64 (L - (s.n : Int)) = L - (s.n : Int) := by unfold wrap64; omega
  by_cases h : L - (s.n : Int) < 0
  · have e : szV L s.n = -1 := by simp [szV, h]
    rw [e]
    go_enter Tryd.func83, Tryd.ntmps83
    go_wp2
    go_ret
    exact ⟨rfl, rfl⟩
  · have e : szV L s.n = L - s.n := by simp [szV, h]
    rw [e]
    go_enter Tryd.func83, Tryd.ntmps83
    go_wp2
    go_ret
    exact ⟨by simp [*], rfl⟩

set_option maxHeartbeats 400000 in
theorem szIntS_any (s : Sl) (L : Int) (w : World) (hn : s.n ≤ 9223372036854775807) (h0 : 0 ≤ L) (h1 : L ≤ 1048576) :
    Calls Tryd.prog 84 #[.slice s.a s.n s.c, .int .i64 L] w fun e w' => e = .returned (.int .i64 (szV L s.n)) ∧ w = w' := by
  have hw : wrap64 (L - (s.n : Int)) = L - (s.n : Int) := by unfold wrap64; omega
  by_cases h : L - (s.n : Int) < 0
  · have e : szV L s.n = -1 := by simp [szV, h]
    rw [e]
    go_enter Tryd.func84, Tryd.ntmps84
    go_wp2
    go_ret
    exact ⟨rfl, rfl⟩
  · have e : szV L s.n = L - s.n := by simp [szV, h]
    rw [e]
    go_enter Tryd.func84, Tryd.ntmps84
    go_wp2
    go_ret
    exact ⟨by simp [*], rfl⟩

set_option maxHeartbeats 1000000 in
theorem szThing_any (x : T8) (s q : Sl) (L : Int) (w : World) (hn : s.n ≤ 9223372036854775807) (hm : q.n ≤ 9223372036854775807) (h0 : 0 ≤ L) (h1 : L ≤ 1048576) :
    Calls Tryd.prog 45 #[x.val s q, .int .i64 L] w fun e w' => e = .returned (.int .i64 (szT L s.n q.n)) ∧ Below w.heap.size w w' := by
  have H1 := Lib.hid (fun w => szRightS_any s L w hn h0 h1)
  by_cases g : szV L s.n < 0
  · have e : szT L s.n q.n = -1 := by simp [szT, g]
    rw [e]
    clear e
    revert H1 g
    generalize szV L s.n = u
    intro H1 g
    go_enter Tryd.func45, Tryd.ntmps45
    go_wp2_with fail
    refine (H1.out _).mono ?_
    rintro e y ⟨rfl, rfl⟩
    go_wp2
    go_ret
    exact ⟨rfl, (Below.refl _ _).alloc (Nat.le_refl _) _⟩
  · have e : szT L s.n q.n = szV (szV L s.n) q.n := by simp [szT, g]
    rw [e]
    obtain ⟨g1, g2⟩ := szV_le g
    have H2 := Lib.hid (fun w => szIntS_any q (szV L s.n) w hm (by omega) (by omega))
    clear e g1 g2
    revert H1 g H2
    generalize szV L s.n = u
    intro H1 g H2
    by_cases g' : szV u q.n < 0
    · have e : szV u q.n = -1 := by unfold szV at *; split at g' <;> simp_all
      revert H2
      rw [e]
      clear e g'
      intro H2
      go_enter Tryd.func45, Tryd.ntmps45
      go_wp2_with fail
      refine (H1.out _).mono ?_
      rintro e y ⟨rfl, rfl⟩
      go_wp2_with fail
      refine (H2.out _).mono ?_
      rintro e y ⟨rfl, rfl⟩
      go_wp2
      go_ret
      exact ⟨rfl, (Below.refl _ _).alloc (Nat.le_refl _) _⟩
    · revert H2 g'
      generalize szV u q.n = v
      intro H2 g'
      go_enter Tryd.func45, Tryd.ntmps45
      go_wp2_with fail
      refine (H1.out _).mono ?_
      rintro e y ⟨rfl, rfl⟩
      go_wp2_with fail
      refine (H2.out _).mono ?_
      rintro e y ⟨rfl, rfl⟩
      go_wp2
      go_ret
      exact ⟨rfl, (Below.refl _ _).alloc (Nat.le_refl _) _⟩
end Go.Proofs.YtpahahonopiblaaDoor
