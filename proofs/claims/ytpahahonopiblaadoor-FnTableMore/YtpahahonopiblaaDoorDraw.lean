/-
  The drawing of inputs: a reader over a code, and its picks.
-/
import Derived.Test.YtpahahonopiblaaDoorBase
import Derived.Deep.QuietTactic
import Derived.BigQuiet
import Derived.OpenShut
namespace Go.Proofs.YtpahahonopiblaaDoor
open Go.RowKit
set_option maxRecDepth 100000

/-- A slice of bytes that came in, of which nothing will be written. -/
def IsRow (k : IntKind) (w : World) (a : Option Addr) (len cap : Nat) (zs : List Int) : Prop :=
  (a = none ∧ len = 0 ∧ cap = 0 ∧ zs = []) ∨
  ∃ x, a = some x ∧ len ≤ cap ∧ cap ≤ maxLen ∧ zs.length = cap ∧ (∀ i, i < zs.length → w.cell? (x.add i) = some (.int k (zs.getD i 0))) ∧ ∀ n ∈ zs, (Lit.int k n).wf = true

/-- What the reader's code is: no more than two thousand bytes, each where it was. -/
def Code (w : World) (a : Option Addr) (len cap : Nat) (zs : List Int) : Prop :=
  len ≤ 2000 ∧ len ≤ cap ∧ cap ≤ maxLen ∧ (0 < len → ∃ b o, a = some ⟨b, o, none⟩ ∧ b < w.heap.size ∧ ∀ i, i < len → w.cell? ⟨b, o + i, none⟩ = some (.int .u8 (zs.getD i 0)) ∧ 0 ≤ zs.getD i 0 ∧ zs.getD i 0 ≤ 255)

theorem code_of_row {w : World} {a : Option Addr} {len cap : Nat} {zs : List Int} (h : IsRow .u8 w a len cap zs) : Code w a (min len 2000) cap zs := by
  rcases h with ⟨rfl, rfl, rfl, rfl⟩ | ⟨x, rfl, hl, hm, hz, hc, hw⟩
  · exact ⟨by omega, by omega, by unfold maxLen; omega, fun h => absurd h (by omega)⟩
  · refine ⟨by omega, by omega, hm, fun h => ?_⟩
    have h0 := hc 0 (by omega)
    obtain ⟨b, o, spot⟩ := x
    have hs : spot = none := by simpa [Addr.add] using World.cell?_spot h0
    subst hs
    have hx : ∀ i, i < min len 2000 → w.cell? ⟨b, o + i, none⟩ = some (.int .u8 (zs.getD i 0)) := fun i hi => by
      have := hc i (by omega)
      by_cases hi0 : i = 0
      · subst hi0; simpa [Addr.add] using this
      · simpa [Addr.add, hi0] using this
    refine ⟨b, o, rfl, ?_, fun i hi => ⟨hx i hi, ?_⟩⟩
    · have := hx 0 (by omega)
      rcases Nat.lt_or_ge b w.heap.size with hlt | hge
      · exact hlt
      · simp [World.cell?, Array.getElem?_eq_none hge] at this
    · have hmem : zs.getD i 0 ∈ zs := by
        have : i < zs.length := by omega
        simp [List.getD_eq_getElem?_getD, List.getElem?_eq_getElem this]
      exact bounds_u8 (hw _ hmem)

theorem Code.drew {w : World} {a : Option Addr} {len cap : Nat} {zs : List Int} (h : Code w a len cap zs) : Code w.drew a len cap zs := h

/-- The reader: block r holds the code and the place. -/
def Rd (w : World) (r : Nat) (a : Option Addr) (len cap : Nat) (zs : List Int) (p : Nat) : Prop :=
  Box w r 123 #[.slice a len cap, .int .i64 p] ∧ Code w a len cap zs ∧ ∀ b o, a = some ⟨b, o, none⟩ → 0 < len → b ≠ r

set_option maxHeartbeats 1000000 in
theorem l6Open_any (a : Option Addr) (len cap : Nat) (zs : List Int) (w : World) (h : IsRow .u8 w a len cap zs) :
    Calls Tryd.prog 52 #[.slice a len cap] w fun e w' => e = .returned (.pointer (some ⟨w.heap.size, 0, none⟩)) ∧ w' = w.alloc (.cells #[.slice a (min len 2000) cap, .int .i64 0] 123) := by
  by_cases h2 : 2000 < len
  · have hm : min len 2000 = 2000 := by omega
    rw [hm]
    have hx : ∃ x, a = some x ∧ len ≤ cap ∧ cap ≤ maxLen := by
      rcases h with ⟨rfl, rfl, rfl, rfl⟩ | ⟨x, rfl, hl, hm, _⟩
      · omega
      · exact ⟨x, rfl, hl, hm⟩
    obtain ⟨x, rfl, hl, hc⟩ := hx
    unfold maxLen at hc
    have h2i : (2000 : Int) < (len : Int) := by omega
    clear h hm
    go_enter Tryd.func52, Tryd.ntmps52
    go_wp2
    go_ret
    exact ⟨rfl, rfl⟩
  · have hm : min len 2000 = len := by omega
    rw [hm]
    have h2i : ¬ (2000 : Int) < (len : Int) := by omega
    clear h hm
    go_enter Tryd.func52, Tryd.ntmps52
    go_wp2
    go_ret
    exact ⟨rfl, rfl⟩

/-- Two numbers that are not negative, mixed bit by bit: not negative. -/
theorem xor_nonneg (a b : Nat) (ha : a < 4611686018427387904) (hb : b < 4611686018427387904) : 0 ≤ bits .xor .i64 (a : Int) (b : Int) := by
  have hx : a ^^^ b < 2 ^ 62 := Nat.xor_lt_two_pow (by omega) (by omega)
  have h1 : (BitVec.ofInt 64 (a : Int)).toNat = a := by
    rw [BitVec.ofInt_natCast, BitVec.toNat_ofNat]; exact Nat.mod_eq_of_lt (by omega)
  have h2 : (BitVec.ofInt 64 (b : Int)).toNat = b := by
    rw [BitVec.ofInt_natCast, BitVec.toNat_ofNat]; exact Nat.mod_eq_of_lt (by omega)
  show 0 ≤ IntKind.i64.wrap ((BitVec.ofInt 64 (a : Int) ^^^ BitVec.ofInt 64 (b : Int)).toNat : Int)
  rw [BitVec.toNat_xor, h1, h2, IntWalk.i64_in _ (by omega)]
  omega

theorem w64_in (x : Int) (h : -9223372036854775808 ≤ x ∧ x ≤ 9223372036854775807) : wrap64 x = x := by unfold wrap64; omega

theorem mix_in (X n : Int) (h0 : 0 ≤ X) (h1 : X < 4611686018427387904) (hn : 1 ≤ n) :
    0 ≤ (bits .xor .i64 X (wrap64 (X.tdiv 64))).tmod n ∧ (bits .xor .i64 X (wrap64 (X.tdiv 64))).tmod n < n := by
  have hd : X.tdiv 64 = X / 64 := Int.tdiv_eq_ediv_of_nonneg h0
  have hw : wrap64 (X / 64) = X / 64 := w64_in _ (by omega)
  rw [hd, hw]
  obtain ⟨a, rfl⟩ := Int.eq_ofNat_of_zero_le h0
  have he : ((a : Int) / 64) = ((a / 64 : Nat) : Int) := by omega
  rw [he]
  have hx := xor_nonneg a (a / 64) (by omega) (by omega)
  rw [Int.tmod_eq_emod_of_nonneg hx]
  exact ⟨Int.emod_nonneg _ (by omega), Int.emod_lt_of_pos _ (by omega)⟩

theorem sum_in (z1 z2 p q : Int) (a0 : 0 ≤ z1) (a1 : z1 ≤ 255) (b0 : 0 ≤ z2) (b1 : z2 ≤ 255) (p0 : 0 ≤ p) (p1 : p ≤ 1000000) (q0 : 0 ≤ q) (q1 : q ≤ 1000000) :
    0 ≤ wrap64 (z1 * 131 + z2 * 1117 + p * 29 + wrap64 (wrap64 q * 53)) ∧ wrap64 (z1 * 131 + z2 * 1117 + p * 29 + wrap64 (wrap64 q * 53)) < 4611686018427387904 := by
  have h1 : wrap64 q = q := w64_in _ (by omega)
  rw [h1]
  have h2 : wrap64 (q * 53) = q * 53 := w64_in _ (by omega)
  rw [h2]
  have h3 : wrap64 (z1 * 131 + z2 * 1117 + p * 29 + q * 53) = z1 * 131 + z2 * 1117 + p * 29 + q * 53 := w64_in _ (by omega)
  rw [h3]
  omega

set_option maxHeartbeats 1000000 in
theorem pick_nil (r : Nat) (a : Option Addr) (cap p : Nat) (n : Int) (w : World) (hB : Box w r 123 #[.slice a 0 cap, .int .i64 p]) (hp : p ≤ 1000000) (hn : 1 ≤ n) :
    Calls Tryd.prog 54 #[.pointer (some ⟨r, 0, none⟩), .int .i64 n] w fun e w' => e = .returned (.int .i64 0) ∧ w' = w.setCell ⟨r, 1, none⟩ (.int .i64 (p + 1)) := by
  have c0 := hB.cell 0 _ rfl
  have c1 := hB.cell 1 _ rfl
  have f1 := hB.thaw 1
  have hn' : ¬ n < 1 := by omega
  clear hB
  go_enter Tryd.func54, Tryd.ntmps54
  go_wp2
  go_ret
  exact ⟨rfl, rfl⟩

set_option maxHeartbeats 1000000 in
theorem pick_in (r b o : Nat) (len cap p : Nat) (z n : Int) (w : World) (hB : Box w r 123 #[.slice (some ⟨b, o, none⟩) len cap, .int .i64 p]) (hp : p ≤ 1000000) (hn : 1 ≤ n) (hn2 : n ≤ 1000000)
    (hc : w.cell? ⟨b, o + p, none⟩ = some (.int .u8 z)) (hbr : b ≠ r) (z0 : 0 ≤ z) (z1 : z ≤ 255) (hpl : p < len) :
    Calls Tryd.prog 54 #[.pointer (some ⟨r, 0, none⟩), .int .i64 n] w fun e w' => e = .returned (.int .i64 (z % n)) ∧ w' = w.setCell ⟨r, 1, none⟩ (.int .i64 (p + 1)) := by
  have c0 := hB.cell 0 _ rfl
  have c1 := hB.cell 1 _ rfl
  have f1 := hB.thaw 1
  have hn' : ¬ n < 1 := by omega
  have hl0 : ((len : Int) == 0) = false := by simp; omega
  have hli : (p : Int) < (len : Int) := by omega
  clear hB
  go_enter Tryd.func54, Tryd.ntmps54
  go_wp2
  go_ret
  exact ⟨rfl, rfl⟩

set_option maxHeartbeats 2000000 in
theorem pick_mix (r b o : Nat) (len cap p i1 i2 : Nat) (z1 z2 n : Int) (w : World) (hB : Box w r 123 #[.slice (some ⟨b, o, none⟩) len cap, .int .i64 p]) (hp : p ≤ 1000000) (hn : 1 ≤ n) (hn2 : n ≤ 1000000)
    (e1 : Hid ((p : Int) % len = i1)) (e2 : Hid (((p : Int) * 7 + 3) % len = i2)) (h1 : i1 < len) (h2 : i2 < len)
    (hc1 : w.cell? ⟨b, o + i1, none⟩ = some (.int .u8 z1)) (hc2 : w.cell? ⟨b, o + i2, none⟩ = some (.int .u8 z2)) (hbr : b ≠ r) (a0 : 0 ≤ z1) (a1 : z1 ≤ 255) (b0 : 0 ≤ z2) (b1 : z2 ≤ 255) (hl : len ≤ 2000) (hpl : ¬ p < len) :
    Calls Tryd.prog 54 #[.pointer (some ⟨r, 0, none⟩), .int .i64 n] w fun e w' => ∃ x : Int, 0 ≤ x ∧ x < n ∧ e = .returned (.int .i64 x) ∧ ∃ m, w' = (w.setCell ⟨r, 1, none⟩ (.int .i64 (p + 1))).drewN m := by
  have c0 := hB.cell 0 _ rfl
  have c1 := hB.cell 1 _ rfl
  have f1 := hB.thaw 1
  have hn' : ¬ n < 1 := by omega
  have hl0 : ((len : Int) == 0) = false := by simp; omega
  have hli : ¬ (p : Int) < (len : Int) := by omega
  have u1 : (p : Int).tmod (len : Int) = (i1 : Int) := by rw [Int.tmod_eq_emod_of_nonneg (by omega)]; exact e1.out
  have u2 : ((p : Int) * 7 + 3).tmod (len : Int) = (i2 : Int) := by rw [Int.tmod_eq_emod_of_nonneg (by omega)]; exact e2.out
  have j1 : (i1 : Int) < (len : Int) := by omega
  have j2 : (i2 : Int) < (len : Int) := by omega
  clear hB
  go_enter Tryd.func54, Tryd.ntmps54
  go_wp2
  have v1 : IntKind.i64.wrap ((p : Int) * 7) = (p : Int) * 7 := IntWalk.i64_in _ (by omega)
  have v2 : IntKind.i64.wrap ((p : Int) * 7 + 3) = (p : Int) * 7 + 3 := IntWalk.i64_in _ (by omega)
  go_quiet (fail)
  clear u1 u2 v1 v2
  go_wp2
  go_ret
  have q0 : 0 ≤ (p : Int) / (len : Int) := Int.ediv_nonneg (by omega) (by omega)
  have q1 : (p : Int) / (len : Int) ≤ 1000000 := Int.le_trans (Int.ediv_le_self _ (by omega)) (by omega)
  obtain ⟨X0, X1⟩ := sum_in z1 z2 p ((p : Int) / (len : Int)) a0 a1 b0 b1 (by omega) (by omega) q0 q1
  obtain ⟨Y0, Y1⟩ := mix_in _ n X0 X1 hn
  exact ⟨_, Y0, Y1, rfl, nq, rfl⟩

theorem Code.grew {r : Nat} {w w' : World} {a : Option Addr} {len cap : Nat} {zs : List Int} (h : Code w a len cap zs) (hg : Grew r w w') (hn : ∀ b o, a = some ⟨b, o, none⟩ → 0 < len → b ≠ r) : Code w' a len cap zs := by
  obtain ⟨h1, h2, h3, h4⟩ := h
  refine ⟨h1, h2, h3, fun h0 => ?_⟩
  obtain ⟨b, o, rfl, hb, hc⟩ := h4 h0
  have hne := hn b o rfl h0
  refine ⟨b, o, rfl, Nat.lt_of_lt_of_le hb hg.size, fun i hi => ⟨?_, (hc i hi).2⟩⟩
  have hk := hg.block b hb hne
  have hx := (hc i hi).1
  simp only [World.cell?] at hx ⊢
  rw [hk]
  exact hx

/-- What a pick leaves. -/
def Picked (n : Int) (r : Nat) (a : Option Addr) (len cap : Nat) (zs : List Int) (p : Nat) (w : World) (e : Ending) (w' : World) : Prop :=
  ∃ x : Int, 0 ≤ x ∧ x < n ∧ e = .returned (.int .i64 x) ∧ Rd w' r a len cap zs (p + 1) ∧ Grew r w w' ∧ w'.heap.size = w.heap.size

theorem rd_put {r : Nat} {a : Option Addr} {len cap : Nat} {zs : List Int} {p : Nat} {w : World} (h : Rd w r a len cap zs p) (m : Nat) :
    Rd ((w.setCell ⟨r, 1, none⟩ (.int .i64 (p + 1))).drewN m) r a len cap zs (p + 1) ∧ Grew r w ((w.setCell ⟨r, 1, none⟩ (.int .i64 (p + 1))).drewN m) ∧ ((w.setCell ⟨r, 1, none⟩ (.int .i64 (p + 1))).drewN m).heap.size = w.heap.size := by
  obtain ⟨h1, h2, h3⟩ := h
  have hg : Grew r w ((w.setCell ⟨r, 1, none⟩ (.int .i64 (p + 1))).drewN m) := ((Grew.refl r w).put (.inl rfl) _).drewN m
  refine ⟨⟨(h1.put 1 _).drewN m, h2.grew hg h3, h3⟩, hg, ?_⟩
  show (w.setCell _ _).heap.size = _
  simp [World.setCell]

theorem pick_any (r : Nat) (a : Option Addr) (len cap : Nat) (zs : List Int) (p : Nat) (n : Int) (w : World) (h : Rd w r a len cap zs p) (hp : p ≤ 1000000) (hn : 1 ≤ n) (hn2 : n ≤ 1000000) :
    Calls Tryd.prog 54 #[.pointer (some ⟨r, 0, none⟩), .int .i64 n] w (Picked n r a len cap zs p w) := by
  obtain ⟨hB, hC, hne⟩ := h
  have hR : Rd w r a len cap zs p := ⟨hB, hC, hne⟩
  by_cases hl : len = 0
  · subst hl
    refine (pick_nil r a cap p n w hB hp hn).mono ?_
    rintro e w' ⟨rfl, rfl⟩
    obtain ⟨q1, q2, q3⟩ := rd_put hR 0
    exact ⟨0, by omega, by omega, rfl, q1, q2, q3⟩
  · obtain ⟨c1, c2, c3, c4⟩ := hC
    obtain ⟨b, o, rfl, hb, hc⟩ := c4 (by omega)
    have hbr := hne b o rfl (by omega)
    by_cases hpl : p < len
    · obtain ⟨x1, x2, x3⟩ := hc p hpl
      refine (pick_in r b o len cap p _ n w hB hp hn hn2 x1 hbr x2 x3 hpl).mono ?_
      rintro e w' ⟨rfl, rfl⟩
      obtain ⟨q1, q2, q3⟩ := rd_put hR 0
      exact ⟨_, Int.emod_nonneg _ (by omega), Int.emod_lt_of_pos _ (by omega), rfl, q1, q2, q3⟩
    · have m1 : p % len < len := Nat.mod_lt _ (Nat.pos_of_ne_zero hl)
      have m2 : (p * 7 + 3) % len < len := Nat.mod_lt _ (Nat.pos_of_ne_zero hl)
      obtain ⟨x1, x2, x3⟩ := hc _ m1
      obtain ⟨y1, y2, y3⟩ := hc _ m2
      refine (pick_mix r b o len cap p _ _ _ _ n w hB hp hn hn2 (by show (p : Int) % (len : Int) = ((p % len : Nat) : Int); simp) (by show ((p : Int) * 7 + 3) % (len : Int) = (((p * 7 + 3) % len : Nat) : Int); simp) m1 m2 x1 y1 hbr x2 x3 y2 y3 c1 hpl).mono ?_
      rintro e w' ⟨x, g0, g1, rfl, m, rfl⟩
      obtain ⟨q1, q2, q3⟩ := rd_put hR m
      exact ⟨x, g0, g1, rfl, q1, q2, q3⟩

theorem IsRow.below {k : IntKind} {w w' : World} {a : Option Addr} {len cap : Nat} {zs : List Int} (h : IsRow k w a len cap zs) (hb : Below w.heap.size w w') : IsRow k w' a len cap zs := by
  rcases h with h | ⟨x, e, hl, hm, hz, hc, hw⟩
  · exact .inl h
  · refine .inr ⟨x, e, hl, hm, hz, fun i hi => ?_, hw⟩
    have h1 := hc i hi
    have hlt : (x.add i).block < w.heap.size := by
      rcases Nat.lt_or_ge (x.add i).block w.heap.size with hlt | hge
      · exact hlt
      · simp [World.cell?, Array.getElem?_eq_none hge] at h1
    exact (hb.cell hlt).trans h1

/-- The reader that spec.l6Open made. -/
theorem rd_open {w : World} {a : Option Addr} {len cap : Nat} {zs : List Int} (h : IsRow .u8 w a len cap zs) :
    Rd (w.alloc (.cells #[.slice a (min len 2000) cap, .int .i64 0] 123)) w.heap.size a (min len 2000) cap zs 0 := by
  have hC := code_of_row h
  have hn : ∀ b o, a = some ⟨b, o, none⟩ → 0 < min len 2000 → b ≠ w.heap.size := by
    rintro b o rfl h0
    obtain ⟨b', o', e, hb, _⟩ := hC.2.2.2 h0
    injection e with e
    injection e with e1 e2
    omega
  exact ⟨Box.fresh _ _ _, hC.grew ((Grew.refl w.heap.size w).alloc _) hn, hn⟩

theorem Box.ne {w : World} {b b' : Nat} {T T' : TypeId} {vs vs' : Array Value} (h : Box w b T vs) (h' : Box w b' T' vs') (hT : T ≠ T') : b ≠ b' := by
  rintro rfl
  unfold Box at h h'
  rw [h] at h'
  injection h' with h'
  injection h' with _ hT'
  exact hT hT'
theorem Rd.past {w : World} {r : Nat} {a : Option Addr} {len cap : Nat} {zs : List Int} {p : Nat} (h : Rd w r a len cap zs p) (o : Obj) : Rd (w.alloc o) r a len cap zs p :=
  ⟨h.1.past o, h.2.1.grew ((Grew.refl r w).alloc o) h.2.2, h.2.2⟩
theorem Rd.drew {w : World} {r : Nat} {a : Option Addr} {len cap : Nat} {zs : List Int} {p : Nat} (h : Rd w r a len cap zs p) : Rd w.drew r a len cap zs p := h
theorem Rd.other {w : World} {r : Nat} {a : Option Addr} {len cap : Nat} {zs : List Int} {p : Nat} (h : Rd w r a len cap zs p) {q : Addr} (u : Value) (hr : q.block ≠ r) (hc : ∀ b o, a = some ⟨b, o, none⟩ → 0 < len → b ≠ q.block) : Rd (w.setCell q u) r a len cap zs p :=
  ⟨h.1.other hr.symm u, h.2.1.grew ((Grew.refl q.block w).put (.inl rfl) u) hc, h.2.2⟩
theorem Rd.stay {w w' : World} {r : Nat} {a : Option Addr} {len cap : Nat} {zs : List Int} {p : Nat} (h : Rd w r a len cap zs p) (hb : Below w.heap.size w w') : Rd w' r a len cap zs p :=
  ⟨h.1.stay hb, h.2.1.grew (Grew.of hb) h.2.2, h.2.2⟩
theorem Rd.lt {w : World} {r : Nat} {a : Option Addr} {len cap : Nat} {zs : List Int} {p : Nat} (h : Rd w r a len cap zs p) : r < w.heap.size := h.1.lt
theorem Rd.code {W : World} {r : Nat} {a : Option Addr} {len cap : Nat} {zs : List Int} {p : Nat} (h : Rd W r a len cap zs p) : ∀ b o, a = some ⟨b, o, none⟩ → 0 < len → b < W.heap.size := by
  rintro b o rfl h0
  obtain ⟨b', o', e, hb, _⟩ := h.2.1.2.2.2 h0
  injection e with e
  injection e with e1 e2
  omega

/-- The result's cell, and what was there, when the reader has been made and has gone on. -/
theorem res1 {w w3 : World} {T T' : TypeId} {x1 x3 : Array Value} (g : Grew (w.heap.size + 1) ((w.alloc (.cells x1 T)).alloc (.cells x3 T')) w3) :
    Box w3 w.heap.size T x1 ∧ Below w.heap.size w w3 ∧ w.heap.size + 1 < w3.heap.size := by
  have b1 := Box.fresh w T x1
  have z := g.size
  simp at z
  have a0 : Below w.heap.size w ((w.alloc (.cells x1 T)).alloc (.cells x3 T')) := ((Below.refl _ _).alloc (Nat.le_refl _) _).alloc (by simp) _
  exact ⟨(b1.past _).grew g (by omega), a0.trans (g.below (by omega) (by simp; omega)), by omega⟩

/-- The two results' cells, and what was there, when the reader has been made and has gone on. -/
theorem res2 {w w3 : World} {T T' : TypeId} {x1 x2 x3 : Array Value} (g : Grew (w.heap.size + 1 + 1) (((w.alloc (.cells x1 T)).alloc (.cells x2 T)).alloc (.cells x3 T')) w3) :
    Box w3 w.heap.size T x1 ∧ Box w3 (w.heap.size + 1) T x2 ∧ Below w.heap.size w w3 ∧ w.heap.size + 2 < w3.heap.size := by
  have e1 : (w.alloc (.cells x1 T)).heap.size = w.heap.size + 1 := by simp
  have b1 := Box.fresh w T x1
  have b2 := Box.fresh (w.alloc (.cells x1 T)) T x2
  rw [e1] at b2
  have z := g.size
  simp at z
  have a0 : Below w.heap.size w (((w.alloc (.cells x1 T)).alloc (.cells x2 T)).alloc (.cells x3 T')) := (((Below.refl _ _).alloc (Nat.le_refl _) _).alloc (by simp) _).alloc (by simp; omega) _
  exact ⟨((b1.past _).past _).grew g (by omega), (b2.past _).grew g (by omega), a0.trans (g.below (by omega) (by simp; omega)), by omega⟩
end Go.Proofs.YtpahahonopiblaaDoor
