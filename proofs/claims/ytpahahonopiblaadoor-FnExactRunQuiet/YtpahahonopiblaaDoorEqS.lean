/-
  Whether two copies of a table are the same; how much came in with one.
-/
import Derived.Test.YtpahahonopiblaaDoorCpS
namespace Go.Proofs.YtpahahonopiblaaDoor
open Go.RowKit
set_option linter.unusedVariables false

set_option maxRecDepth 100000 in
set_option maxHeartbeats 2000000 in
theorem eqThingS_ne (l : List T8) (b o c b2 o2 c2 : Nat) (w : World) (h1 : Tb w b o l) (h2 : Tb w b2 o2 l) (hz : l.length ≤ 1048576) (hzs : ∀ i (h : i < l.length), l[i].slots.length ≤ 1048576 ∧ l[i].queue.length ≤ 1048576) :
    Calls Tryd.prog 17 #[.slice (some ⟨b, o, none⟩) l.length c, .slice (some ⟨b2, o2, none⟩) l.length c2] w fun e w' => e = .returned (.bool true) ∧ Below w.heap.size w w' := by
  have H1 := Lib.hid h1
  have H2 := Lib.hid h2
  have HZ := Lib.hid hzs
  clear h1 h2 hzs
  go_enter Tryd.func17, Tryd.ntmps17
  go_wp2
  go_loopw [5] (fun i wr => ∃ k : Nat, k ≤ l.length ∧ i = .int .i64 k ∧ Below w.heap.size w wr) (fun i _ => l.length - (intOf i).toNat)
  case atStart => exact ⟨0, by omega, rfl, Below.refl _ _⟩
  case round =>
    obtain ⟨k, hk, rfl, B0⟩ := hrel
    have HB := Lib.hid B0
    clear B0
    by_cases hlt : k < l.length
    · have hlt' : (k : Int) < (l.length : Int) := by omega
      obtain ⟨ss, qs, hR, hQ, hA⟩ := (H1.out.stay HB.out) k hlt
      obtain ⟨ss2, qs2, hR2, hQ2, hA2⟩ := (H2.out.stay HB.out) k hlt
      have c0 : wr.cell? ⟨b, o + k * 8, none⟩ = some (.int .i64 (l[k]).kind) := hA 0 _ rfl
      have c1 : wr.cell? ⟨b, o + k * 8 + 1, none⟩ = some (.int .i64 (l[k]).sec) := hA 1 _ rfl
      have c2 : wr.cell? ⟨b, o + k * 8 + 2, none⟩ = some (.int .i64 (l[k]).vou) := hA 2 _ rfl
      have c3 : wr.cell? ⟨b, o + k * 8 + 3, none⟩ = some (.int .i64 (l[k]).vers) := hA 3 _ rfl
      have c4 : wr.cell? ⟨b, o + k * 8 + 4, none⟩ = some (.int .i64 (l[k]).num) := hA 4 _ rfl
      have c5 : wr.cell? ⟨b, o + k * 8 + 5, none⟩ = some (.slice ss.a ss.n ss.c) := hA 5 _ rfl
      have c6 : wr.cell? ⟨b, o + k * 8 + 6, none⟩ = some (.slice qs.a qs.n qs.c) := hA 6 _ rfl
      have c7 : wr.cell? ⟨b, o + k * 8 + 7, none⟩ = some (.int .i64 (l[k]).to) := hA 7 _ rfl
      have d0 : wr.cell? ⟨b2, o2 + k * 8, none⟩ = some (.int .i64 (l[k]).kind) := hA2 0 _ rfl
      have d1 : wr.cell? ⟨b2, o2 + k * 8 + 1, none⟩ = some (.int .i64 (l[k]).sec) := hA2 1 _ rfl
      have d2 : wr.cell? ⟨b2, o2 + k * 8 + 2, none⟩ = some (.int .i64 (l[k]).vou) := hA2 2 _ rfl
      have d3 : wr.cell? ⟨b2, o2 + k * 8 + 3, none⟩ = some (.int .i64 (l[k]).vers) := hA2 3 _ rfl
      have d4 : wr.cell? ⟨b2, o2 + k * 8 + 4, none⟩ = some (.int .i64 (l[k]).num) := hA2 4 _ rfl
      have d5 : wr.cell? ⟨b2, o2 + k * 8 + 5, none⟩ = some (.slice ss2.a ss2.n ss2.c) := hA2 5 _ rfl
      have d6 : wr.cell? ⟨b2, o2 + k * 8 + 6, none⟩ = some (.slice qs2.a qs2.n qs2.c) := hA2 6 _ rfl
      have d7 : wr.cell? ⟨b2, o2 + k * 8 + 7, none⟩ = some (.int .i64 (l[k]).to) := hA2 7 _ rfl
      have HR := Lib.hid hR
      have HQ := Lib.hid hQ
      have HR2 := Lib.hid hR2
      have HQ2 := Lib.hid hQ2
      clear hR hQ hR2 hQ2 hA hA2
      have cc0 := fun zz : Wd (Kn wr []) => stayCell c0 zz.ok.1
      have cc1 := fun zz : Wd (Kn wr []) => stayCell c1 zz.ok.1
      have cc2 := fun zz : Wd (Kn wr []) => stayCell c2 zz.ok.1
      have cc3 := fun zz : Wd (Kn wr []) => stayCell c3 zz.ok.1
      have cc4 := fun zz : Wd (Kn wr []) => stayCell c4 zz.ok.1
      have cc5 := fun zz : Wd (Kn wr []) => stayCell c5 zz.ok.1
      have cc6 := fun zz : Wd (Kn wr []) => stayCell c6 zz.ok.1
      have cc7 := fun zz : Wd (Kn wr []) => stayCell c7 zz.ok.1
      have dd0 := fun zz : Wd (Kn wr []) => stayCell d0 zz.ok.1
      have dd1 := fun zz : Wd (Kn wr []) => stayCell d1 zz.ok.1
      have dd2 := fun zz : Wd (Kn wr []) => stayCell d2 zz.ok.1
      have dd3 := fun zz : Wd (Kn wr []) => stayCell d3 zz.ok.1
      have dd4 := fun zz : Wd (Kn wr []) => stayCell d4 zz.ok.1
      have dd5 := fun zz : Wd (Kn wr []) => stayCell d5 zz.ok.1
      have dd6 := fun zz : Wd (Kn wr []) => stayCell d6 zz.ok.1
      have dd7 := fun zz : Wd (Kn wr []) => stayCell d7 zz.ok.1
      have ne : Nonempty (Wd (Kn wr [])) := ⟨⟨_, (Kn.refl (w := wr)).drew⟩⟩
      have HE := Lib.hid (fun zz : Wd (Kn wr []) => eqThing_same l[k] ss qs ss2 qs2 zz.w (HR.out.stay zz.ok.1) (HQ.out.stay zz.ok.1) (HR2.out.stay zz.ok.1) (HQ2.out.stay zz.ok.1) (HZ.out k hlt).1 (HZ.out k hlt).2)
      clear c0 d0 c1 d1 c2 d2 c3 d3 c4 d4 c5 d5 c6 d6 c7 d7 HR HQ HR2 HQ2
      go_upto_region 6 with fail
      refine wp_region_quiet (C := fun y => ∃ zz : Wd (Kn wr []), y = zz.w) (by kernel_rfl) (by kernel_rfl) ⟨⟨_, (Kn.refl (w := wr)).drew⟩, rfl⟩ ?_
      show wpQuiet _ _ _ _ [_, _, _, _, _, _, _, _, _, _] _
      repeat (first | go_big_quiet_step ((go_at_call 50; with_reducible exact inCls Kn.stay (HE.out _))) | quiet_step ((go_at_call 50; with_reducible exact inCls Kn.stay (HE.out _))))
      refine wpQuiet_nil ?_
      rintro _ ⟨⟨y, K2⟩, rfl⟩
      have HB2 := Lib.hid (HB.out.trans (K2.1.mono HB.out.size))
      clear ne cc0 dd0 cc1 dd1 cc2 dd2 cc3 dd3 cc4 dd4 cc5 dd5 cc6 dd6 cc7 dd7 K2 HE
      go_wp2
      go_roundw
      case rel => exact ⟨k + 1, by omega, by go_num, HB2.out⟩
      case measure => simp [intOf]; omega
    · have hlt' : ¬ (k : Int) < (l.length : Int) := by omega
      go_wp2
      go_ret
      exact ⟨rfl, HB.out⟩
set_option maxHeartbeats 1000000 in
theorem eqThingS_nil (a : Option Addr) (c : Nat) (a2 : Option Addr) (c2 : Nat) (w : World) :
    Calls Tryd.prog 17 #[.slice a 0 c, .slice a2 0 c2] w fun e w' => e = .returned (.bool true) ∧ Below w.heap.size w w' := by
  go_enter Tryd.func17, Tryd.ntmps17
  go_wp2
  go_loop [5] (fun i => i = .int .i64 0) (fun _ => 0)
  case atStart => rfl
  case round =>
    subst hrel
    go_wp2
    go_ret
    exact ⟨rfl, Below.refl _ _⟩
theorem eqThingS_same (l : List T8) (s s2 : Sl) (w : World) (h : HasT w s l) (h2 : HasT w s2 l) (hz : l.length ≤ 1048576) (hzs : ∀ i (h : i < l.length), l[i].slots.length ≤ 1048576 ∧ l[i].queue.length ≤ 1048576) :
    Calls Tryd.prog 17 #[.slice s.a s.n s.c, .slice s2.a s2.n s2.c] w fun e w' => e = .returned (.bool true) ∧ Below w.heap.size w w' := by
  obtain ⟨a1, a2, a3⟩ := h
  obtain ⟨b1, b2, b3⟩ := h2
  rw [a1, b1]
  by_cases hl : l = []
  · subst hl
    exact eqThingS_nil _ _ _ _ w
  · rcases a3 with a3 | ⟨b, o, e, a3⟩
    · exact absurd a3 hl
    rcases b3 with b3 | ⟨b', o', e', b3⟩
    · exact absurd b3 hl
    rw [e, e']
    exact eqThingS_ne l b o s.c b' o' s2.c w a3 b3 hz hzs

/-- What the first k things of a list hold. -/
def sumTo (l : List T8) (k : Nat) : Nat := ((l.take k).map fun x => x.slots.length + x.queue.length).sum
theorem sumTo_zero (l : List T8) : sumTo l 0 = 0 := by simp [sumTo]
theorem sumTo_succ {l : List T8} {k : Nat} (h : k < l.length) : sumTo l (k + 1) = sumTo l k + (l[k].slots.length + l[k].queue.length) := by
  unfold sumTo
  rw [List.take_add_one, List.getElem?_eq_getElem h, List.map_append, List.sum_append]
  simp
theorem sumTo_ge {l : List T8} {i : Nat} (h : i < l.length) : ∀ k, i < k → k ≤ l.length → l[i].slots.length + l[i].queue.length ≤ sumTo l k := by
  intro k
  induction k with
  | zero => intro h; omega
  | succ k ih =>
    intro h1 h2
    rw [sumTo_succ (by omega)]
    by_cases e : i = k
    · subst e; omega
    · have := ih (by omega) (by omega)
      omega

set_option maxRecDepth 100000 in
set_option maxHeartbeats 2000000 in
theorem szThingS_ne (l : List T8) (b o c : Nat) (w : World) (ht : Tb w b o l) (hn : l.length ≤ 9223372036854775807) (hns : ∀ i (h : i < l.length), l[i].slots.length ≤ 9223372036854775807 ∧ l[i].queue.length ≤ 9223372036854775807) :
    Calls Tryd.prog 13 #[.slice (some ⟨b, o, none⟩) l.length c, .int .i64 1048576] w fun e w' => (∃ r : Int, e = .returned (.int .i64 r) ∧ (r < 0 ∨ l.length ≤ 1048576 ∧ ∀ i (h : i < l.length), l[i].slots.length ≤ 1048576 ∧ l[i].queue.length ≤ 1048576)) ∧ Below w.heap.size w w' := by
  have hw : wrap64 (1048576 - (l.length : Int)) = 1048576 - (l.length : Int) := by unfold wrap64; omega
  have HT := Lib.hid ht
  have HN := Lib.hid hns
  clear ht hns
  by_cases h0 : (1048576 : Int) - (l.length : Int) < 0
  · go_enter Tryd.func13, Tryd.ntmps13
    go_wp2
    go_ret
    exact ⟨⟨-1, rfl, .inl (by decide)⟩, Below.refl _ _⟩
  go_enter Tryd.func13, Tryd.ntmps13
  go_wp2
  go_loopw [1, 5] (fun u i wr => ∃ k : Nat, k ≤ l.length ∧ i = .int .i64 k ∧ Below w.heap.size w wr ∧ ∃ v : Int, u = .int .i64 v ∧ v = 1048576 - (l.length : Int) - (sumTo l k : Int) ∧ 0 ≤ v) (fun _ i _ => l.length - (intOf i).toNat)
  case atStart => exact ⟨0, by omega, rfl, Below.refl _ _, _, rfl, by rw [sumTo_zero]; simp, by omega⟩
  case round =>
    obtain ⟨k, hk, rfl, B0, v, rfl, hv, hv0⟩ := hrel
    have HB := Lib.hid B0
    have HV := Lib.hid hv
    clear B0 hv
    by_cases hlt : k < l.length
    · have hlt' : (k : Int) < (l.length : Int) := by omega
      obtain ⟨ss, qs, hR, hQ, hA⟩ := (HT.out.stay HB.out) k hlt
      have c0 : wr.cell? ⟨b, o + k * 8, none⟩ = some (.int .i64 (l[k]).kind) := hA 0 _ rfl
      have c1 : wr.cell? ⟨b, o + k * 8 + 1, none⟩ = some (.int .i64 (l[k]).sec) := hA 1 _ rfl
      have c2 : wr.cell? ⟨b, o + k * 8 + 2, none⟩ = some (.int .i64 (l[k]).vou) := hA 2 _ rfl
      have c3 : wr.cell? ⟨b, o + k * 8 + 3, none⟩ = some (.int .i64 (l[k]).vers) := hA 3 _ rfl
      have c4 : wr.cell? ⟨b, o + k * 8 + 4, none⟩ = some (.int .i64 (l[k]).num) := hA 4 _ rfl
      have c5 : wr.cell? ⟨b, o + k * 8 + 5, none⟩ = some (.slice ss.a ss.n ss.c) := hA 5 _ rfl
      have c6 : wr.cell? ⟨b, o + k * 8 + 6, none⟩ = some (.slice qs.a qs.n qs.c) := hA 6 _ rfl
      have c7 : wr.cell? ⟨b, o + k * 8 + 7, none⟩ = some (.int .i64 (l[k]).to) := hA 7 _ rfl
      have HRn := Lib.hid hR.len
      have HQn := Lib.hid hQ.len
      have hvl : v ≤ 1048576 := by have := HV.out; omega
      have HC := Lib.hid (fun w => szThing_any l[k] ss qs v w (by rw [HRn.out]; exact (HN.out k hlt).1) (by rw [HQn.out]; exact (HN.out k hlt).2) hv0 hvl)
      clear hR hQ hA
      by_cases g : szT v ss.n qs.n < 0
      · revert HC g
        generalize szT v ss.n qs.n = u
        intro HC g
        go_wp2_with fail
        refine (HC.out _).mono ?_
        rintro e y ⟨rfl, hb⟩
        go_wp2
        go_ret
        exact ⟨⟨-1, rfl, .inl (by decide)⟩, HB.out.trans (hb.mono HB.out.size)⟩
      · have HL := Lib.hid (szT_le g)
        revert HC g HL
        generalize szT v ss.n qs.n = u
        intro HC g HL
        go_wp2_with fail
        refine (HC.out _).mono ?_
        rintro e y ⟨rfl, hb⟩
        have HB2 := Lib.hid (HB.out.trans (hb.mono HB.out.size))
        clear hb
        go_wp2
        go_roundw
        case rel =>
          refine ⟨k + 1, by omega, by go_num, HB2.out, u, rfl, ?_, by omega⟩
          have h1 := HL.out.1
          have h2 := HV.out
          have h3 := HRn.out
          have h4 := HQn.out
          rw [sumTo_succ hlt]
          omega
        case measure => simp [intOf]; omega
    · have hlt' : ¬ (k : Int) < (l.length : Int) := by omega
      have HJ := Lib.hid (show k = l.length by omega)
      go_wp2
      go_ret
      refine ⟨⟨v, rfl, .inr ⟨by omega, fun i hi => ?_⟩⟩, HB.out⟩
      have := sumTo_ge hi l.length hi (Nat.le_refl _)
      have h2 := HV.out
      rw [HJ.out] at h2
      omega
set_option maxHeartbeats 1000000 in
theorem szThingS_nil (a : Option Addr) (c : Nat) (w : World) :
    Calls Tryd.prog 13 #[.slice a 0 c, .int .i64 1048576] w fun e w' => e = .returned (.int .i64 1048576) ∧ Below w.heap.size w w' := by
  go_enter Tryd.func13, Tryd.ntmps13
  go_wp2
  go_loop [1, 5] (fun u i => u = .int .i64 1048576 ∧ i = .int .i64 0) (fun _ _ => 0)
  case atStart => exact ⟨rfl, rfl⟩
  case round =>
    obtain ⟨rfl, rfl⟩ := hrel
    go_wp2
    go_ret
    exact ⟨rfl, Below.refl _ _⟩
theorem szThingS_any (l : List T8) (s : Sl) (w : World) (ht : HasT w s l) (hn : s.n ≤ 9223372036854775807) (hns : ∀ i (h : i < l.length), l[i].slots.length ≤ 9223372036854775807 ∧ l[i].queue.length ≤ 9223372036854775807) :
    Calls Tryd.prog 13 #[.slice s.a s.n s.c, .int .i64 1048576] w fun e w' => (∃ r : Int, e = .returned (.int .i64 r) ∧ (r < 0 ∨ l.length ≤ 1048576 ∧ ∀ i (h : i < l.length), l[i].slots.length ≤ 1048576 ∧ l[i].queue.length ≤ 1048576)) ∧ Below w.heap.size w w' := by
  obtain ⟨h1, h2, h3⟩ := ht
  rcases h3 with rfl | ⟨b, o, e, h3⟩
  · rw [h1]
    exact (szThingS_nil s.a s.c w).mono fun e w' h => ⟨⟨_, h.1, .inr ⟨by simp, fun i h => absurd h (by simp)⟩⟩, h.2⟩
  · rw [h1, e]
    exact szThingS_ne l b o s.c w h3 (by omega) hns
end Go.Proofs.YtpahahonopiblaaDoor
