/-
  Rows of calls: the laws' copy of one, how much came in, sameness; one among the arguments, opened.
-/
import Derived.Test.YtpahahonopiblaaDoorCalA
import Derived.Test.YtpahahonopiblaaDoorCpD
import Derived.Test.YtpahahonopiblaaDoorEq
import Derived.Test.YtpahahonopiblaaDoorOpenT
namespace Go.Proofs.YtpahahonopiblaaDoor
open Go.RowKit
set_option linter.unusedVariables false

/-- Calls in a row. -/
def HasC (w : World) (s : Sl) (l : List C5) : Prop := Els w s 5 (l.map C5.cs)
theorem HasC.stay {w w' : World} {s : Sl} {l : List C5} (h : HasC w s l) (hb : Below w.heap.size w w') : HasC w' s l := Els.stay h hb
theorem HasC.len {w : World} {s : Sl} {l : List C5} (h : HasC w s l) : s.n = l.length := h.1.trans (by simp)
theorem HasC.at {w : World} {s : Sl} {l : List C5} (h : HasC w s l) {i : Nat} (hi : i < l.length) : ∃ b o, s.a = some ⟨b, o, none⟩ ∧ At w b (o + i * 5) (l[i]).cs := by
  rcases h.2.2 with h0 | ⟨b, o, e, h3⟩
  · simp at h0; subst h0; simp at hi
  · exact ⟨b, o, e, h3 i _ (by simp [List.getElem?_eq_getElem hi])⟩
theorem HasC.ne {w : World} {s : Sl} {l : List C5} (h : HasC w s l) (hl : l ≠ []) : ∃ b o, s.a = some ⟨b, o, none⟩ ∧ ∀ i (h : i < l.length), At w b (o + i * 5) (l[i]).cs := by
  rcases h.2.2 with h0 | ⟨b, o, e, h3⟩
  · exact absurd (by simpa using h0) hl
  · exact ⟨b, o, e, fun i hi => h3 i _ (by simp [List.getElem?_eq_getElem hi])⟩

set_option maxHeartbeats 2000000 in
theorem toCallS_ne (l : List C5) (b o c : Nat) (w : World) (hl : ∀ i (h : i < l.length), At w b (o + i * 5) (l[i]).cs) (hz : l.length ≤ 1048576) :
    Calls Tryd.prog 34 #[.slice (some ⟨b, o, none⟩) l.length c] w fun e w' => e = .returned (.slice (some ⟨w.heap.size, 0, none⟩) l.length l.length) ∧ HasC w' ⟨some ⟨w.heap.size, 0, none⟩, l.length, l.length⟩ l ∧ Below w.heap.size w w' := by
  have hmk := fun w => make_row (P := Tryd.prog) 56 67 (.agg #[.int .i64 0, .int .i64 0, .int .i64 0, .int .i64 0, .int .i64 0]) 5 40 Tryd.underlying56 (by kernel_rfl) l.length (by omega) (by omega) w
  have HL := Lib.hid hl
  clear hl
  go_enter Tryd.func34, Tryd.ntmps34
  go_wp2
  go_loopw [4] (fun i wr => ∃ k : Nat, k ≤ l.length ∧ i = .int .i64 k ∧ Below w.heap.size w wr ∧ Part wr w.heap.size 67 5 l.length (l.map C5.cs) k) (fun i _ => l.length - (intOf i).toNat)
  case atStart => exact ⟨0, by omega, rfl, (Below.refl _ _).alloc (Nat.le_refl _) _, Part.fresh _ _ _ _ _ _⟩
  case round =>
    obtain ⟨k, hk, rfl, B0, P0⟩ := hrel
    have HB0 := Lib.hid B0
    have HP0 := Lib.hid P0
    clear B0 P0 hmk
    by_cases hlt : k < l.length
    · have hlt' : (k : Int) < (l.length : Int) := by omega
      have hc := (HL.out k hlt).stay HB0.out
      have c0 : wr.cell? ⟨b, o + k * 5, none⟩ = some (.int .i64 (l[k]).k) := hc 0 _ rfl
      have c1 : wr.cell? ⟨b, o + k * 5 + 1, none⟩ = some (.int .i64 (l[k]).r) := hc 1 _ rfl
      have c2 : wr.cell? ⟨b, o + k * 5 + 2, none⟩ = some (.int .i64 (l[k]).a) := hc 2 _ rfl
      have c3 : wr.cell? ⟨b, o + k * 5 + 3, none⟩ = some (.int .i64 (l[k]).b) := hc 3 _ rfl
      have c4 : wr.cell? ⟨b, o + k * 5 + 4, none⟩ = some (.int .i64 (l[k]).n) := hc 4 _ rfl
      clear hc
      go_wp2_with fail
      refine (toCall_any l[k] _).mono ?_
      rintro e y ⟨rfl, hb⟩
      have HP := Lib.hid (HP0.out.stay hb)
      have HB := Lib.hid (HB0.out.trans (hb.mono HB0.out.size))
      clear hb c0 c1 c2 c3 c4
      obtain ⟨⟨u0, e0⟩, f0⟩ := HP.out.next (m := l.length) hlt (j := 0) (by decide)
      have g0 : y.cell? ⟨w.heap.size, k * 5, none⟩ = some u0 := by simpa using e0
      have h0 : y.frozen? ⟨w.heap.size, k * 5, none⟩ = false := by simpa using f0
      obtain ⟨⟨u1, e1⟩, f1⟩ := HP.out.next (m := l.length) hlt (j := 1) (by decide)
      have g1 : y.cell? ⟨w.heap.size, k * 5 + 1, none⟩ = some u1 := by simpa using e1
      have h1 : y.frozen? ⟨w.heap.size, k * 5 + 1, none⟩ = false := by simpa using f1
      obtain ⟨⟨u2, e2⟩, f2⟩ := HP.out.next (m := l.length) hlt (j := 2) (by decide)
      have g2 : y.cell? ⟨w.heap.size, k * 5 + 2, none⟩ = some u2 := by simpa using e2
      have h2 : y.frozen? ⟨w.heap.size, k * 5 + 2, none⟩ = false := by simpa using f2
      obtain ⟨⟨u3, e3⟩, f3⟩ := HP.out.next (m := l.length) hlt (j := 3) (by decide)
      have g3 : y.cell? ⟨w.heap.size, k * 5 + 3, none⟩ = some u3 := by simpa using e3
      have h3 : y.frozen? ⟨w.heap.size, k * 5 + 3, none⟩ = false := by simpa using f3
      obtain ⟨⟨u4, e4⟩, f4⟩ := HP.out.next (m := l.length) hlt (j := 4) (by decide)
      have g4 : y.cell? ⟨w.heap.size, k * 5 + 4, none⟩ = some u4 := by simpa using e4
      have h4 : y.frozen? ⟨w.heap.size, k * 5 + 4, none⟩ = false := by simpa using f4
      clear e0 f0 e1 f1 e2 f2 e3 f3 e4 f4
      go_wp2
      go_roundw
      case rel =>
        have hx : (l.map C5.cs)[k]? = some ((l[k]).cs) := by simp [List.getElem?_eq_getElem hlt]
        refine ⟨k + 1, by omega, by go_num, ?_, ?_⟩
        · iterate 5 (with_reducible refine Below.setCell ?_ (by dsimp only; omega) _)
          exact HB.out
        · exact HP.out.put5 hlt hx
      case measure => simp [intOf]; omega
    · have hlt' : ¬ (k : Int) < (l.length : Int) := by omega
      have HJ := Lib.hid (show k = l.length by omega)
      go_wp2
      go_ret
      refine ⟨rfl, ?_, HB0.out⟩
      have hp := HP0.out
      rw [HJ.out] at hp
      have := Part.els (l := l.map C5.cs) (by simpa using hp) (by intro x hx; simp at hx; obtain ⟨y, _, rfl⟩ := hx; rfl)
      simpa [HasC] using this

set_option maxHeartbeats 1000000 in
theorem toCallS_nil (a : Option Addr) (c : Nat) (w : World) :
    Calls Tryd.prog 34 #[.slice a 0 c] w fun e w' => e = .returned (.slice (some ⟨w.heap.size, 0, none⟩) 0 0) ∧ Below w.heap.size w w' := by
  have hmk := fun w => make_row (P := Tryd.prog) 56 67 (.agg #[.int .i64 0, .int .i64 0, .int .i64 0, .int .i64 0, .int .i64 0]) 5 40 Tryd.underlying56 (by kernel_rfl) 0 (by omega) (by omega) w
  simp only [Nat.zero_mul, Int.natCast_zero] at hmk
  go_enter Tryd.func34, Tryd.ntmps34
  go_wp2
  go_loop [4] (fun i => i = .int .i64 0) (fun _ => 0)
  case atStart => rfl
  case round =>
    subst hrel
    go_wp2
    go_ret
    exact ⟨rfl, (Below.refl _ _).alloc (Nat.le_refl _) _⟩
theorem toCallS_any (l : List C5) (s : Sl) (w : World) (h : HasC w s l) (hz : l.length ≤ 1048576) :
    Calls Tryd.prog 34 #[.slice s.a s.n s.c] w fun e w' => (∃ s' : Sl, e = .returned (.slice s'.a s'.n s'.c) ∧ HasC w' s' l ∧ s'.a = some ⟨w.heap.size, 0, none⟩) ∧ Below w.heap.size w w' := by
  have hn := h.len
  by_cases hl : l = []
  · subst hl
    rw [hn]
    refine (toCallS_nil s.a s.c w).mono fun e w' h => ⟨⟨⟨some ⟨w.heap.size, 0, none⟩, 0, 0⟩, h.1, ⟨rfl, Nat.le_refl _, .inl rfl⟩, rfl⟩, h.2⟩
  · obtain ⟨b, o, ea, hall⟩ : ∃ b o, s.a = some ⟨b, o, none⟩ ∧ ∀ i (h : i < l.length), At w b (o + i * 5) (l[i]).cs := by
      rcases h.2.2 with h0 | ⟨b, o, e, h3⟩
      · exact absurd (by simpa using h0) hl
      · exact ⟨b, o, e, fun i hi => h3 i _ (by simp [List.getElem?_eq_getElem hi])⟩
    rw [hn, ea]
    exact (toCallS_ne l b o s.c w hall hz).mono fun e w' h => ⟨⟨⟨some ⟨w.heap.size, 0, none⟩, l.length, l.length⟩, h.1, h.2.1, rfl⟩, h.2.2⟩

set_option maxHeartbeats 1000000 in
theorem eqCall_same (c : C5) (w : World) :
    Calls Tryd.prog 78 #[.agg #[.int .i64 c.k, .int .i64 c.r, .int .i64 c.a, .int .i64 c.b, .int .i64 c.n], .agg #[.int .i64 c.k, .int .i64 c.r, .int .i64 c.a, .int .i64 c.b, .int .i64 c.n]] w fun e w' => e = .returned (.bool true) ∧ Below w.heap.size w w' := by
  go_enter Tryd.func78, Tryd.ntmps78
  go_wp2
  go_ret
  exact ⟨rfl, ((Below.refl _ _).alloc (Nat.le_refl _) _).alloc (by simp) _⟩
set_option maxHeartbeats 2000000 in
theorem eqCallS_ne (l : List C5) (b o c b2 o2 c2 : Nat) (w : World) (h1 : ∀ i (h : i < l.length), At w b (o + i * 5) (l[i]).cs) (h2 : ∀ i (h : i < l.length), At w b2 (o2 + i * 5) (l[i]).cs) (hz : l.length ≤ 1048576) :
    Calls Tryd.prog 36 #[.slice (some ⟨b, o, none⟩) l.length c, .slice (some ⟨b2, o2, none⟩) l.length c2] w fun e w' => e = .returned (.bool true) ∧ Below w.heap.size w w' := by
  have H1 := Lib.hid h1
  have H2 := Lib.hid h2
  clear h1 h2
  go_enter Tryd.func36, Tryd.ntmps36
  go_wp2
  go_loopw [5] (fun i wr => ∃ k : Nat, k ≤ l.length ∧ i = .int .i64 k ∧ Below w.heap.size w wr) (fun i _ => l.length - (intOf i).toNat)
  case atStart => exact ⟨0, by omega, rfl, Below.refl _ _⟩
  case round =>
    obtain ⟨k, hk, rfl, B0⟩ := hrel
    have HB := Lib.hid B0
    clear B0
    by_cases hlt : k < l.length
    · have hlt' : (k : Int) < (l.length : Int) := by omega
      have hc := (H1.out k hlt).stay HB.out
      have hd := (H2.out k hlt).stay HB.out
      have c0 : wr.cell? ⟨b, o + k * 5, none⟩ = some (.int .i64 (l[k]).k) := hc 0 _ rfl
      have c1 : wr.cell? ⟨b, o + k * 5 + 1, none⟩ = some (.int .i64 (l[k]).r) := hc 1 _ rfl
      have c2 : wr.cell? ⟨b, o + k * 5 + 2, none⟩ = some (.int .i64 (l[k]).a) := hc 2 _ rfl
      have c3 : wr.cell? ⟨b, o + k * 5 + 3, none⟩ = some (.int .i64 (l[k]).b) := hc 3 _ rfl
      have c4 : wr.cell? ⟨b, o + k * 5 + 4, none⟩ = some (.int .i64 (l[k]).n) := hc 4 _ rfl
      have d0 : wr.cell? ⟨b2, o2 + k * 5, none⟩ = some (.int .i64 (l[k]).k) := hd 0 _ rfl
      have d1 : wr.cell? ⟨b2, o2 + k * 5 + 1, none⟩ = some (.int .i64 (l[k]).r) := hd 1 _ rfl
      have d2 : wr.cell? ⟨b2, o2 + k * 5 + 2, none⟩ = some (.int .i64 (l[k]).a) := hd 2 _ rfl
      have d3 : wr.cell? ⟨b2, o2 + k * 5 + 3, none⟩ = some (.int .i64 (l[k]).b) := hd 3 _ rfl
      have d4 : wr.cell? ⟨b2, o2 + k * 5 + 4, none⟩ = some (.int .i64 (l[k]).n) := hd 4 _ rfl
      clear hc hd
      have cc0 := fun zz : Wd (Kn wr []) => stayCell c0 zz.ok.1
      have cc1 := fun zz : Wd (Kn wr []) => stayCell c1 zz.ok.1
      have cc2 := fun zz : Wd (Kn wr []) => stayCell c2 zz.ok.1
      have cc3 := fun zz : Wd (Kn wr []) => stayCell c3 zz.ok.1
      have cc4 := fun zz : Wd (Kn wr []) => stayCell c4 zz.ok.1
      have dd0 := fun zz : Wd (Kn wr []) => stayCell d0 zz.ok.1
      have dd1 := fun zz : Wd (Kn wr []) => stayCell d1 zz.ok.1
      have dd2 := fun zz : Wd (Kn wr []) => stayCell d2 zz.ok.1
      have dd3 := fun zz : Wd (Kn wr []) => stayCell d3 zz.ok.1
      have dd4 := fun zz : Wd (Kn wr []) => stayCell d4 zz.ok.1
      have ne : Nonempty (Wd (Kn wr [])) := ⟨⟨_, (Kn.refl (w := wr)).drew⟩⟩
      clear c0 d0 c1 d1 c2 d2 c3 d3 c4 d4
      go_upto_region 6 with fail
      refine wp_region_quiet (C := fun y => ∃ zz : Wd (Kn wr []), y = zz.w) (by kernel_rfl) (by kernel_rfl) ⟨⟨_, (Kn.refl (w := wr)).drew⟩, rfl⟩ ?_
      show wpQuiet _ _ _ _ [_, _, _, _, _, _, _, _, _, _] _
      repeat (first | go_big_quiet_step ((go_at_call 78; with_reducible exact inCls Kn.stay (eqCall_same l[k] _))) | quiet_step ((go_at_call 78; with_reducible exact inCls Kn.stay (eqCall_same l[k] _))))
      refine wpQuiet_nil ?_
      rintro _ ⟨⟨y, K2⟩, rfl⟩
      have HB2 := Lib.hid (HB.out.trans (K2.1.mono HB.out.size))
      clear ne cc0 dd0 cc1 dd1 cc2 dd2 cc3 dd3 cc4 dd4 K2
      go_wp2
      go_roundw
      case rel => exact ⟨k + 1, by omega, by go_num, HB2.out⟩
      case measure => simp [intOf]; omega
    · have hlt' : ¬ (k : Int) < (l.length : Int) := by omega
      go_wp2
      go_ret
      exact ⟨rfl, HB.out⟩
set_option maxHeartbeats 1000000 in
theorem eqCallS_nil (a : Option Addr) (c : Nat) (a2 : Option Addr) (c2 : Nat) (w : World) :
    Calls Tryd.prog 36 #[.slice a 0 c, .slice a2 0 c2] w fun e w' => e = .returned (.bool true) ∧ Below w.heap.size w w' := by
  go_enter Tryd.func36, Tryd.ntmps36
  go_wp2
  go_loop [5] (fun i => i = .int .i64 0) (fun _ => 0)
  case atStart => rfl
  case round =>
    subst hrel
    go_wp2
    go_ret
    exact ⟨rfl, Below.refl _ _⟩
theorem eqCallS_same (l : List C5) (s s2 : Sl) (w : World) (h : HasC w s l) (h2 : HasC w s2 l) (hz : l.length ≤ 1048576) :
    Calls Tryd.prog 36 #[.slice s.a s.n s.c, .slice s2.a s2.n s2.c] w fun e w' => e = .returned (.bool true) ∧ Below w.heap.size w w' := by
  rw [h.len, h2.len]
  by_cases hl : l = []
  · subst hl
    exact eqCallS_nil _ _ _ _ w
  · have g : ∀ {s : Sl}, HasC w s l → ∃ b o, s.a = some ⟨b, o, none⟩ ∧ ∀ i (h : i < l.length), At w b (o + i * 5) (l[i]).cs := by
      intro s h
      rcases h.2.2 with h0 | ⟨b, o, e, h3⟩
      · exact absurd (by simpa using h0) hl
      · exact ⟨b, o, e, fun i hi => h3 i _ (by simp [List.getElem?_eq_getElem hi])⟩
    obtain ⟨b, o, e1, a1⟩ := g h
    obtain ⟨b2, o2, e2, a2⟩ := g h2
    rw [e1, e2]
    exact eqCallS_ne l b o s.c b2 o2 s2.c w a1 a2 hz

set_option maxHeartbeats 400000 in
theorem szCallS_any (s : Sl) (L : Int) (w : World) (hn : s.n ≤ 9223372036854775807) (h0 : 0 ≤ L) (h1 : L ≤ 1048576) :
    Calls Tryd.prog 32 #[.slice s.a s.n s.c, .int .i64 L] w fun e w' => e = .returned (.int .i64 (szV L s.n)) ∧ w = w' := by
  have hw : wrap64 (L - (s.n : Int)) = L - (s.n : Int) := by unfold wrap64; omega
  by_cases h : L - (s.n : Int) < 0
  · have e : szV L s.n = -1 := by simp [szV, h]
    rw [e]
    go_enter Tryd.func32, Tryd.ntmps32
    go_wp2
    go_ret
    exact ⟨rfl, rfl⟩
  · have e : szV L s.n = L - s.n := by simp [szV, h]
    rw [e]
    go_enter Tryd.func32, Tryd.ntmps32
    go_wp2
    go_ret
    exact ⟨by simp [*], rfl⟩

section
open Go.ChangeShapes Go.WideShapes Go.ChangeAt Go.RowKit Go.Joins Go.Deep
variable {H : Type} {enc : TypeId × Value → H} {w : World} {base : Nat} {spare : Nat → Bool} {held : Bool}
theorem cellsC : Tryd.prog.cellsOf 107 = 5 := by kernel_rfl
/-- Five cells that read as a call. -/
theorem cal_cells {fuel : Nat} {cs : List Value} {x : DataW H × List MemPlace} (hf : DataW.trod enc Tryd.prog w base spare held fuel 107 cs = some x) : ∃ r : C5, cs = r.cs.toList := by
  obtain ⟨c0, c1, c2, c3, c4, rfl⟩ := len5 ((fieldL_len Tryd.underlying107 hf).trans cellsC)
  obtain ⟨n0, y0, g0⟩ := fieldL_reads Tryd.underlying107 hf 0 _ [c0] rfl (by kernel_rfl)
  obtain ⟨n1, y1, g1⟩ := fieldL_reads Tryd.underlying107 hf 1 _ [c1] rfl (by kernel_rfl)
  obtain ⟨n2, y2, g2⟩ := fieldL_reads Tryd.underlying107 hf 2 _ [c2] rfl (by kernel_rfl)
  obtain ⟨n3, y3, g3⟩ := fieldL_reads Tryd.underlying107 hf 3 _ [c3] rfl (by kernel_rfl)
  obtain ⟨n4, y4, g4⟩ := fieldL_reads Tryd.underlying107 hf 4 _ [c4] rfl (by kernel_rfl)
  obtain ⟨a, e0, -, -⟩ := DataW.trod_int Tryd.underlying3 g0
  obtain ⟨b, e1, -, -⟩ := DataW.trod_int Tryd.underlying3 g1
  obtain ⟨c, e2, -, -⟩ := DataW.trod_int Tryd.underlying3 g2
  obtain ⟨d, e3, -, -⟩ := DataW.trod_int Tryd.underlying3 g3
  obtain ⟨e, e4, -, -⟩ := DataW.trod_int Tryd.underlying3 g4
  simp only [List.cons.injEq, and_true] at e0 e1 e2 e3 e4
  subst e0 e1 e2 e3 e4
  exact ⟨⟨a, b, c, d, e⟩, rfl⟩

/-- A slice of calls among what came in. -/
theorem open_cs {fuel : Nat} {cs : List Value} {x : DataW H × List MemPlace} (hf : DataW.trod enc Tryd.prog w base spare held fuel 54 cs = some x) :
    ∃ (s : Sl) (l : List C5), cs = [.slice s.a s.n s.c] ∧ HasC w s l ∧ s.n ≤ maxLen := by
  rcases open_slice Tryd.underlying54 hf with ⟨rfl, _⟩ | ⟨a, len, cap, m, n, D, Pl, rfl, _, hlc, hcm, hm, _, hall⟩
  · exact ⟨⟨none, 0, 0⟩, [], rfl, ⟨rfl, Nat.le_refl _, .inl rfl⟩, Nat.zero_le _⟩
  · have hlm : len ≤ m := by rw [hm]; split <;> omega
    rw [cellsC] at hall
    obtain ⟨l, hl, hp⟩ := list_of (⟨0, 0, 0, 0, 0⟩ : C5) (n := len) (p := fun i r => w.cells? base (a.add (i * 5)) 5 = some r.cs.toList) (fun i hi => by
      obtain ⟨cs', h1, h2⟩ := hall i (by omega)
      obtain ⟨r, rfl⟩ := cal_cells h2
      exact ⟨r, h1⟩)
    refine ⟨⟨some a, len, cap⟩, l, rfl, ⟨by simp [hl], hlc, ?_⟩, Nat.le_trans hlc hcm⟩
    by_cases h0 : l = []
    · left; simp [h0]
    · right
      have hpos : 0 < l.length := List.length_pos_iff.2 h0
      have hs : a.spot = none := by
        have := cells_at (hp 0 hpos) 0 _ rfl
        have e : ((a.add (0 * 5)).add 0) = a := by simp [Addr.add]
        rw [e] at this
        exact spot_none this
      obtain ⟨b, o, sp⟩ := a
      simp only at hs
      subst hs
      refine ⟨b, o, rfl, fun i x hx => ?_⟩
      simp only [List.getElem?_map, Option.map_eq_some_iff] at hx
      obtain ⟨r, hr, rfl⟩ := hx
      obtain ⟨hi, rfl⟩ := List.getElem?_eq_some_iff.1 hr
      exact at_of rfl (hp i hi)

end
end Go.Proofs.YtpahahonopiblaaDoor
