/-
  The laws' copies of tables.
-/
import Derived.Test.YtpahahonopiblaaDoorCpT
import Derived.Test.YtpahahonopiblaaDoorEq
namespace Go.Proofs.YtpahahonopiblaaDoor
open Go.RowKit
set_option linter.unusedVariables false

/-- Block B is a row for m things; the first k are copies of l's, and what they hold lies behind B. -/
def PartT (w : World) (B m : Nat) (l : List T8) (k : Nat) : Prop :=
  ∃ cs, Box w B 37 cs ∧ cs.size = m * 8 ∧ ∀ i (h : i < l.length), i < k → ∃ ss qs : Sl, HasR w ss l[i].slots ∧ HasQ w qs l[i].queue ∧ (∀ b o, ss.a = some ⟨b, o, none⟩ → B < b) ∧ (∀ b o, qs.a = some ⟨b, o, none⟩ → B < b) ∧ ∀ j v, (l[i].cs ss qs)[j]? = some v → cs[i * 8 + j]? = some v
theorem PartT.fresh (w : World) (m : Nat) (l : List T8) (z : Array Value) : PartT (w.alloc (.cells (madeCells z (m * 8)) 37)) w.heap.size m l 0 :=
  ⟨_, Box.fresh _ _ _, size_madeCells _ _, fun i x hi => absurd hi (by omega)⟩
theorem PartT.stay {w w' : World} {B m : Nat} {l : List T8} {k : Nat} (h : PartT w B m l k) (hb : Below w.heap.size w w') : PartT w' B m l k := by
  obtain ⟨cs, h1, h2, h3⟩ := h
  refine ⟨cs, h1.stay hb, h2, fun i hi hk => ?_⟩
  obtain ⟨ss, qs, a1, a2, a3, a4, a5⟩ := h3 i hi hk
  exact ⟨ss, qs, a1.stay hb, a2.stay hb, a3, a4, a5⟩
theorem PartT.lt {w : World} {B m : Nat} {l : List T8} {k : Nat} (h : PartT w B m l k) : B < w.heap.size := by
  obtain ⟨cs, h1, _⟩ := h
  exact h1.lt
theorem PartT.next {w : World} {B m : Nat} {l : List T8} {k : Nat} (h : PartT w B m l k) (hk : k < m) {j : Nat} (hj : j < 8) : (∃ u, w.cell? ⟨B, k * 8 + j, none⟩ = some u) ∧ w.frozen? ⟨B, k * 8 + j, none⟩ = false := by
  obtain ⟨cs, h1, h2, h3⟩ := h
  have hl : k * 8 + j < cs.size := by rw [h2]; omega
  exact ⟨⟨cs[k * 8 + j], h1.cell _ _ (Array.getElem?_eq_getElem hl)⟩, h1.thaw _⟩
theorem lay_R {B : Nat} {s : Sl} {l : List R5} (hp : ∀ b o, s.a = some ⟨b, o, none⟩ → B < b) (vs : List Value) : ∀ {w : World} (o : Nat), HasR w s l → HasR (lay w B o vs) s l := by
  induction vs with
  | nil => intro w o h; exact h
  | cons v vs ih => intro w o h; exact ih (o + 1) (h.other (fun b o e => by have := hp b o e; dsimp only; omega) v)
theorem lay_Q {B : Nat} {s : Sl} {l : List Int} (hp : ∀ b o, s.a = some ⟨b, o, none⟩ → B < b) (vs : List Value) : ∀ {w : World} (o : Nat), HasQ w s l → HasQ (lay w B o vs) s l := by
  induction vs with
  | nil => intro w o h; exact h
  | cons v vs ih => intro w o h; exact ih (o + 1) (h.other (fun b o e => by have := hp b o e; dsimp only; omega) v)
theorem PartT.put {w : World} {B m : Nat} {l : List T8} {k : Nat} (h : PartT w B m l k) (hk : k < m) (hl : k < l.length) {s q : Sl} (h1 : HasR w s l[k].slots) (h2 : HasQ w q l[k].queue) (n1 : ∀ b o, s.a = some ⟨b, o, none⟩ → B < b) (n2 : ∀ b o, q.a = some ⟨b, o, none⟩ → B < b) :
    PartT (lay w B (k * 8) (l[k].cs s q).toList) B m l (k + 1) := by
  obtain ⟨cs, g1, g2, g3⟩ := h
  refine ⟨_, lay_box (l[k].cs s q).toList (k * 8) g1, by rw [layC_size, g2], fun i hi hik => ?_⟩
  by_cases e : i = k
  · subst e
    refine ⟨s, q, lay_R n1 _ _ h1, lay_Q n2 _ _ h2, n1, n2, fun j v hv => ?_⟩
    exact layC_in (l[i].cs s q).toList cs (i * 8) j v (by rw [g2]; show i * 8 + 8 ≤ _; omega) (by simpa using hv)
  · obtain ⟨ss, qs, a1, a2, a3, a4, a5⟩ := g3 i hi (by omega)
    refine ⟨ss, qs, lay_R a3 _ _ a1, lay_Q a4 _ _ a2, a3, a4, fun j v hv => ?_⟩
    have hj : j < 8 := (Array.getElem?_eq_some_iff.1 hv).1
    rw [layC_out]
    · exact a5 j v hv
    · left; omega
theorem PartT.put8 {w y : World} {m : Nat} {l : List T8} {k : Nat} (h : PartT y w.heap.size m l k) (hk : k < m) (hl : k < l.length) {s1 q1 : Sl} (h1 : HasR y s1 l[k].slots) (h2 : HasQ y q1 l[k].queue) (n1 : ∀ b o, s1.a = some ⟨b, o, none⟩ → w.heap.size < b) (n2 : ∀ b o, q1.a = some ⟨b, o, none⟩ → w.heap.size < b) :
    PartT ((((((((y.setCell ⟨w.heap.size, k * 8, none⟩ (.int .i64 (l[k]).kind)).setCell ⟨w.heap.size, k * 8 + 1, none⟩ (.int .i64 (l[k]).sec)).setCell ⟨w.heap.size, k * 8 + 2, none⟩ (.int .i64 (l[k]).vou)).setCell ⟨w.heap.size, k * 8 + 3, none⟩ (.int .i64 (l[k]).vers)).setCell ⟨w.heap.size, k * 8 + 4, none⟩ (.int .i64 (l[k]).num)).setCell ⟨w.heap.size, k * 8 + 5, none⟩ (.slice s1.a s1.n s1.c)).setCell ⟨w.heap.size, k * 8 + 6, none⟩ (.slice q1.a q1.n q1.c)).setCell ⟨w.heap.size, k * 8 + 7, none⟩ (.int .i64 (l[k]).to)) w.heap.size m l (k + 1) := by
  have h1 : PartT (lay y w.heap.size (k * 8) [.int .i64 (l[k]).kind, .int .i64 (l[k]).sec, .int .i64 (l[k]).vou, .int .i64 (l[k]).vers, .int .i64 (l[k]).num, .slice s1.a s1.n s1.c, .slice q1.a q1.n q1.c, .int .i64 (l[k]).to]) w.heap.size m l (k + 1) := h.put hk hl h1 h2 n1 n2
  simp only [lay, Nat.add_assoc, Nat.reduceAdd] at h1
  exact h1
theorem PartT.tb {w : World} {B : Nat} {l : List T8} (h : PartT w B l.length l l.length) : Tb w B 0 l := fun i hi => by
  obtain ⟨cs, h1, h2, h3⟩ := h
  obtain ⟨ss, qs, a1, a2, _, _, a5⟩ := h3 i hi hi
  refine ⟨ss, qs, a1, a2, fun j v hv => ?_⟩
  have := h1.cell _ _ (a5 j v hv)
  rw [show 0 + i * 8 + j = i * 8 + j by omega]
  exact this

set_option maxRecDepth 100000 in
set_option maxHeartbeats 2000000 in
theorem toThingS_ne (l : List T8) (b o c : Nat) (w : World) (ht : Tb w b o l) (hz : l.length ≤ 1048576) (hzs : ∀ i (h : i < l.length), l[i].slots.length ≤ 1048576 ∧ l[i].queue.length ≤ 1048576) :
    Calls Tryd.prog 15 #[.slice (some ⟨b, o, none⟩) l.length c] w fun e w' => e = .returned (.slice (some ⟨w.heap.size, 0, none⟩) l.length l.length) ∧ Tb w' w.heap.size 0 l ∧ Below w.heap.size w w' := by
  have hmk := fun w => make_row (P := Tryd.prog) 25 37 (.agg #[.int .i64 0, .int .i64 0, .int .i64 0, .int .i64 0, .int .i64 0, .slice none 0 0, .slice none 0 0, .int .i64 0]) 8 96 Tryd.underlying25 (by kernel_rfl) l.length (by omega) (by omega) w
  have HT := Lib.hid ht
  have HZ := Lib.hid hzs
  clear ht hzs
  go_enter Tryd.func15, Tryd.ntmps15
  go_wp2
  go_loopw [4] (fun i wr => ∃ k : Nat, k ≤ l.length ∧ i = .int .i64 k ∧ Below w.heap.size w wr ∧ PartT wr w.heap.size l.length l k) (fun i _ => l.length - (intOf i).toNat)
  case atStart => exact ⟨0, by omega, rfl, (Below.refl _ _).alloc (Nat.le_refl _) _, PartT.fresh _ _ _ _⟩
  case round =>
    obtain ⟨k, hk, rfl, B0, P0⟩ := hrel
    have HB0 := Lib.hid B0
    have HP0 := Lib.hid P0
    clear B0 P0 hmk
    by_cases hlt : k < l.length
    · have hlt' : (k : Int) < (l.length : Int) := by omega
      obtain ⟨ss, qs, hR, hQ, hA⟩ := (HT.out.stay HB0.out) k hlt
      have c0 : wr.cell? ⟨b, o + k * 8, none⟩ = some (.int .i64 (l[k]).kind) := hA 0 _ rfl
      have c1 : wr.cell? ⟨b, o + k * 8 + 1, none⟩ = some (.int .i64 (l[k]).sec) := hA 1 _ rfl
      have c2 : wr.cell? ⟨b, o + k * 8 + 2, none⟩ = some (.int .i64 (l[k]).vou) := hA 2 _ rfl
      have c3 : wr.cell? ⟨b, o + k * 8 + 3, none⟩ = some (.int .i64 (l[k]).vers) := hA 3 _ rfl
      have c4 : wr.cell? ⟨b, o + k * 8 + 4, none⟩ = some (.int .i64 (l[k]).num) := hA 4 _ rfl
      have c5 : wr.cell? ⟨b, o + k * 8 + 5, none⟩ = some (.slice ss.a ss.n ss.c) := hA 5 _ rfl
      have c6 : wr.cell? ⟨b, o + k * 8 + 6, none⟩ = some (.slice qs.a qs.n qs.c) := hA 6 _ rfl
      have c7 : wr.cell? ⟨b, o + k * 8 + 7, none⟩ = some (.int .i64 (l[k]).to) := hA 7 _ rfl
      have HR := Lib.hid hR
      have HQ := Lib.hid hQ
      clear hR hQ hA
      go_wp2_with fail
      refine (toThing_any l[k] ss qs _ HR.out HQ.out (HZ.out k hlt).1 (HZ.out k hlt).2).mono ?_
      rintro e y ⟨⟨s1, q1, rfl, r1, r2, r3, r4⟩, hb⟩
      have HP := Lib.hid (HP0.out.stay hb)
      have HB := Lib.hid (HB0.out.trans (hb.mono HB0.out.size))
      have N1 := Lib.hid (show ∀ b o, s1.a = some ⟨b, o, none⟩ → w.heap.size < b from fun b o e => Nat.lt_of_lt_of_le HP0.out.lt (r3 b o e))
      have N2 := Lib.hid (show ∀ b o, q1.a = some ⟨b, o, none⟩ → w.heap.size < b from fun b o e => Nat.lt_of_lt_of_le HP0.out.lt (r4 b o e))
      have HR1 := Lib.hid r1
      have HQ1 := Lib.hid r2
      clear hb c0 c1 c2 c3 c4 c5 c6 c7 r1 r2 r3 r4 HR HQ
      obtain ⟨⟨u0, e0⟩, f0⟩ := HP.out.next hlt (j := 0) (by decide)
      have g0 : y.cell? ⟨w.heap.size, k * 8, none⟩ = some u0 := by simpa using e0
      have h0 : y.frozen? ⟨w.heap.size, k * 8, none⟩ = false := by simpa using f0
      obtain ⟨⟨u1, e1⟩, f1⟩ := HP.out.next hlt (j := 1) (by decide)
      have g1 : y.cell? ⟨w.heap.size, k * 8 + 1, none⟩ = some u1 := by simpa using e1
      have h1 : y.frozen? ⟨w.heap.size, k * 8 + 1, none⟩ = false := by simpa using f1
      obtain ⟨⟨u2, e2⟩, f2⟩ := HP.out.next hlt (j := 2) (by decide)
      have g2 : y.cell? ⟨w.heap.size, k * 8 + 2, none⟩ = some u2 := by simpa using e2
      have h2 : y.frozen? ⟨w.heap.size, k * 8 + 2, none⟩ = false := by simpa using f2
      obtain ⟨⟨u3, e3⟩, f3⟩ := HP.out.next hlt (j := 3) (by decide)
      have g3 : y.cell? ⟨w.heap.size, k * 8 + 3, none⟩ = some u3 := by simpa using e3
      have h3 : y.frozen? ⟨w.heap.size, k * 8 + 3, none⟩ = false := by simpa using f3
      obtain ⟨⟨u4, e4⟩, f4⟩ := HP.out.next hlt (j := 4) (by decide)
      have g4 : y.cell? ⟨w.heap.size, k * 8 + 4, none⟩ = some u4 := by simpa using e4
      have h4 : y.frozen? ⟨w.heap.size, k * 8 + 4, none⟩ = false := by simpa using f4
      obtain ⟨⟨u5, e5⟩, f5⟩ := HP.out.next hlt (j := 5) (by decide)
      have g5 : y.cell? ⟨w.heap.size, k * 8 + 5, none⟩ = some u5 := by simpa using e5
      have h5 : y.frozen? ⟨w.heap.size, k * 8 + 5, none⟩ = false := by simpa using f5
      obtain ⟨⟨u6, e6⟩, f6⟩ := HP.out.next hlt (j := 6) (by decide)
      have g6 : y.cell? ⟨w.heap.size, k * 8 + 6, none⟩ = some u6 := by simpa using e6
      have h6 : y.frozen? ⟨w.heap.size, k * 8 + 6, none⟩ = false := by simpa using f6
      obtain ⟨⟨u7, e7⟩, f7⟩ := HP.out.next hlt (j := 7) (by decide)
      have g7 : y.cell? ⟨w.heap.size, k * 8 + 7, none⟩ = some u7 := by simpa using e7
      have h7 : y.frozen? ⟨w.heap.size, k * 8 + 7, none⟩ = false := by simpa using f7
      clear e0 f0 e1 f1 e2 f2 e3 f3 e4 f4 e5 f5 e6 f6 e7 f7
      go_wp2
      go_roundw
      case rel =>
        refine ⟨k + 1, by omega, by go_num, ?_, ?_⟩
        · iterate 8 (with_reducible refine Below.setCell ?_ (by dsimp only; omega) _)
          exact HB.out
        · exact HP.out.put8 hlt hlt HR1.out HQ1.out N1.out N2.out
      case measure => simp [intOf]; omega
    · have hlt' : ¬ (k : Int) < (l.length : Int) := by omega
      have HJ := Lib.hid (show k = l.length by omega)
      go_wp2
      go_ret
      refine ⟨rfl, ?_, HB0.out⟩
      have hp := HP0.out
      rw [HJ.out] at hp
      exact hp.tb
set_option maxHeartbeats 1000000 in
theorem toThingS_nil (a : Option Addr) (c : Nat) (w : World) :
    Calls Tryd.prog 15 #[.slice a 0 c] w fun e w' => e = .returned (.slice (some ⟨w.heap.size, 0, none⟩) 0 0) ∧ Below w.heap.size w w' := by
  have hmk := fun w => make_row (P := Tryd.prog) 25 37 (.agg #[.int .i64 0, .int .i64 0, .int .i64 0, .int .i64 0, .int .i64 0, .slice none 0 0, .slice none 0 0, .int .i64 0]) 8 96 Tryd.underlying25 (by kernel_rfl) 0 (by omega) (by omega) w
  simp only [Nat.zero_mul, Int.natCast_zero] at hmk
  go_enter Tryd.func15, Tryd.ntmps15
  go_wp2
  go_loop [4] (fun i => i = .int .i64 0) (fun _ => 0)
  case atStart => rfl
  case round =>
    subst hrel
    go_wp2
    go_ret
    exact ⟨rfl, (Below.refl _ _).alloc (Nat.le_refl _) _⟩
/-- A copy of a table. -/
theorem toThingS_any (l : List T8) (s : Sl) (w : World) (ht : HasT w s l) (hz : l.length ≤ 1048576) (hzs : ∀ i (h : i < l.length), l[i].slots.length ≤ 1048576 ∧ l[i].queue.length ≤ 1048576) :
    Calls Tryd.prog 15 #[.slice s.a s.n s.c] w fun e w' => (∃ s' : Sl, e = .returned (.slice s'.a s'.n s'.c) ∧ HasT w' s' l) ∧ Below w.heap.size w w' := by
  obtain ⟨h1, h2, h3⟩ := ht
  rcases h3 with rfl | ⟨b, o, e, h3⟩
  · rw [h1]
    exact (toThingS_nil s.a s.c w).mono fun e w' h => ⟨⟨⟨some ⟨w.heap.size, 0, none⟩, 0, 0⟩, h.1, rfl, Nat.le_refl _, .inl rfl⟩, h.2⟩
  · rw [h1, e]
    exact (toThingS_ne l b o s.c w h3 hz hzs).mono fun e w' h => ⟨⟨⟨some ⟨w.heap.size, 0, none⟩, l.length, l.length⟩, h.1, rfl, Nat.le_refl _, .inr ⟨_, _, rfl, h.2.1⟩⟩, h.2.2⟩
end Go.Proofs.YtpahahonopiblaaDoor
