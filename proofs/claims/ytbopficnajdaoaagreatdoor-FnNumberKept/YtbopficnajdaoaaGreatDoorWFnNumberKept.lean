/-
  The walk of laws.FnNumberKept.
-/
import Derived.Test.YtbopficnajdaoaaGreatDoorLdM
namespace Go.Proofs.YtbopficnajdaoaaGreatDoor
open Go.RowKit
set_option maxRecDepth 100000
set_option linter.unusedVariables false

theorem wk3 {k : Nat} (h : k < 9) : wrap64 ((k : Int) + 1) = (k : Int) + 1 ∧ IntKind.i64.wrap ((k : Int) + 1) = (k : Int) + 1 ∧ IntKind.i64.wrap (k : Int) = (k : Int) ∧ wrap64 ((k : Int) + 1 - 1) = (k : Int) :=
  ⟨by unfold wrap64; omega, IntWalk.i64_in _ (by omega), IntWalk.i64_in _ (by omega), by unfold wrap64; omega⟩
theorem ltn (k n : Nat) : k < n ↔ (k : Int) < (n : Int) := by omega
theorem ltn1 {k n : Nat} (h : k < n) : (k : Int) + 1 < (n : Int) + 1 := by omega
theorem mn {k n : Nat} (h : k < n) : n - (intOf (.int .i64 ((k + 1 : Nat) : Int))).toNat < n - (intOf (.int .i64 (k : Int))).toNat := by
  simp only [intOf]; omega
theorem wkk {k k1 : Nat} (h : k + 1 = k1) (hk : k < 9) : wrap64 ((k : Int) + 1) = (k1 : Int) ∧ IntKind.i64.wrap ((k : Int) + 1) = (k1 : Int) ∧ IntKind.i64.wrap (k : Int) = (k : Int) ∧ IntKind.i64.wrap (k1 : Int) = (k1 : Int) :=
  ⟨by unfold wrap64; omega, by rw [show (k : Int) + 1 = (k1 : Int) by omega]; exact IntWalk.i64_in _ (by omega), IntWalk.i64_in _ (by omega), IntWalk.i64_in _ (by omega)⟩
theorem ltk1 {k k1 m m1 : Nat} (h : k + 1 = k1) (h2 : m + 1 = m1) (hk : k < m) : (k1 : Int) < (m1 : Int) ∧ k1 < m1 := by omega
theorem lek1 {k k1 m : Nat} (h : k + 1 = k1) (hk : k < m) : k1 ≤ m := by omega
theorem mnk {k k1 n : Nat} (e : k + 1 = k1) (h : k < n) : n - (intOf (.int .i64 (k1 : Int))).toNat < n - (intOf (.int .i64 (k : Int))).toNat := by
  simp only [intOf]; omega
theorem m1f {m m1 : Nat} (h : m + 1 = m1) (hb : m1 ≤ 3) : (((m1 : Int)) == 0) = false ∧ (0 : Int) < (m1 : Int) ∧ 0 < m1 ∧ wrap64 ((m1 : Int) - 1) = (m : Int) ∧ IntKind.i64.wrap ((m1 : Int) - 1) = (m : Int) :=
  ⟨by simp; omega, by omega, by omega, by unfold wrap64; omega, by rw [show (m1 : Int) - 1 = (m : Int) by omega]; exact IntWalk.i64_in _ (by omega)⟩
theorem kn1 (k : Nat) : Value.int .i64 ((k : Int) + 1) = Value.int .i64 ((k + 1 : Nat) : Int) := by congr 1
theorem bne_of {a b : Int} (h : (a == b) = false) : (a != b) = true := by simp [bne, h]
theorem q_found {cn q : Int} {Q : List Int} (h : q = cn ∨ q ∈ Q) {b : Bool} (hb : b = false → q ≠ cn ∧ ∀ j (hj : j < Q.length), j < Q.length → Q[j] ≠ q) : b = true := by
  cases b with
  | true => rfl
  | false =>
    obtain ⟨h1, h2⟩ := hb rfl
    rcases h with h | h
    · exact absurd h h1
    · obtain ⟨j, hj, e⟩ := List.getElem_of_mem h
      exact absurd e (h2 j hj hj)
theorem q_more {cn q : Int} {Q : List Int} {m : Nat} (hm : m < Q.length) {b : Bool} (hb : b = false → q ≠ cn ∧ ∀ j (hj : j < Q.length), j < m → Q[j] ≠ q) (hn : Q[m] ≠ q) : b = false → q ≠ cn ∧ ∀ j (hj : j < Q.length), j < m + 1 → Q[j] ≠ q := fun e => by
  obtain ⟨h1, h2⟩ := hb e
  refine ⟨h1, fun j hj hl => ?_⟩
  by_cases he : j = m
  · subst he; exact hn
  · exact h2 j hj (by omega)
theorem q_first {cn q : Int} {Q : List Int} {b : Bool} (hb : (q == cn) = b) : b = false → q ≠ cn ∧ ∀ j (hj : j < Q.length), j < 0 → Q[j] ≠ q := fun e => by
  subst e
  exact ⟨by simpa using hb, fun j hj h => absurd h (by omega)⟩
theorem kin {k n : Nat} (h : k < n) (h8 : n ≤ 8) : k < 9 := by omega
theorem qin {k n : Nat} (h : k < n) (h8 : n ≤ 3) : k < 9 := by omega
set_option maxHeartbeats 16000000 in
theorem walk_FnNumberKept (a0 : Option Addr) (len0 cap0 : Nat) (z0 : List Int) (w : World) (hKF : KF w) (hET : ET w) (w0 : IsRow .u8 w a0 len0 cap0 z0) :
    Calls Tryz.prog 19 #[.slice a0 len0 cap0] w fun e w' => e = .returned (.bool true) ∧ Below w.heap.size w w' := by
  by_cases g0 : (1048576 : Int) < (len0 : Int)
  · go_enter Tryz.func19, Tryz.ntmps19
    go_wp2
    go_ret
    exact ⟨rfl, Below.refl _ _⟩
  have W0 := Lib.hid w0
  have HF := Lib.hid hKF
  have HE := Lib.hid hET
  clear w0 hKF hET
  go_enter Tryz.func19, Tryz.ntmps19
  go_wp2_with fail
  refine (drawCD_any a0 len0 cap0 z0 _ W0.out).mono ?_
  rintro e y0 ⟨g, c, l, q, rfl, hT, l3, l8, hzs, hb⟩
  have K0 := Lib.hid ((Kn.start hb).new 25 (C5.cs q))
  have T0 := Lib.hid (hT.stay ((Below.refl _ _).alloc (Nat.le_refl _) (.cells (C5.cs q) 25)))
  have HZS := Lib.hid hzs
  have hz : l.length ≤ 1048576 := by omega
  clear W0 hb hT hzs
  obtain ⟨x, ans, hv⟩ : ∃ x ans, callV l q = (x, ans) := ⟨_, _, rfl⟩
  have HV := Lib.hid hv
  have HSX := Lib.hid (call_sm hv)
  clear hv
  go_wp2_with fail
  refine (specDo_val (s := ⟨some ⟨g, 0, none⟩, l.length, c⟩) HV.out _ T0.out hz HZS.out).mono ?_
  rintro e y1 ⟨s1, ts1, rfl, t1, hm1, hb⟩
  have K1 := Lib.hid (K0.out.stay hb)
  have T1 := Lib.hid (T0.out.stay hb)
  have X1 := Lib.hid (show HasT y1 s1 x from hm1 ▸ t1.hasT)
  clear hb t1 hm1 K0 T0
  have c0 := K1.out.c (b := y0.heap.size) (T := 25) (vs := C5.cs q) (by simp) 0 _ rfl
  have c1 := K1.out.c (b := y0.heap.size) (T := 25) (vs := C5.cs q) (by simp) 1 _ rfl
  have c2 := K1.out.c (b := y0.heap.size) (T := 25) (vs := C5.cs q) (by simp) 2 _ rfl
  have c3 := K1.out.c (b := y0.heap.size) (T := 25) (vs := C5.cs q) (by simp) 3 _ rfl
  have c4 := K1.out.c (b := y0.heap.size) (T := 25) (vs := C5.cs q) (by simp) 4 _ rfl
  go_wp2_with fail
  refine (implDo_val (s := ⟨some ⟨g, 0, none⟩, l.length, c⟩) HV.out _ T1.out (HF.out.stay K1.out.1) (HE.out.stay K1.out.1) hz).mono ?_
  rintro e y2 ⟨s2, ts2, rfl, t2, hm2, hb⟩
  have K2 := Lib.hid (K1.out.stay hb)
  have T2 := Lib.hid (T1.out.stay hb)
  have X2 := Lib.hid (X1.out.stay hb)
  have P2 := Lib.hid (show HasT y2 s2 x from hm2 ▸ t2.hasT)
  have HA2 := Lib.hid (show 0 < x.length → ∃ gx, s2.a = some ⟨gx, 0, none⟩ from fun h => by
    obtain ⟨gx, cur, e, -⟩ := t2.1.form (by have := congrArg List.length hm2; simp at this; omega)
    exact ⟨gx, e⟩)
  clear hb t2 hm2 K1 T1 X1 c0 c1 c2 c3 c4
  go_wp2_with fail
  refine (ldTable_same x s2 s1 _ P2.out X2.out HSX.out.1 HSX.out.2).mono ?_
  rintro e y3 ⟨rfl, hb⟩
  have K3 := Lib.hid (K2.out.stay hb)
  have T3 := Lib.hid (T2.out.stay hb)
  have X3 := Lib.hid (X2.out.stay hb)
  have P3 := Lib.hid (P2.out.stay hb)
  clear hb K2 T2 X2 P2
  have c0 := K3.out.c (b := y0.heap.size) (T := 25) (vs := C5.cs q) (by simp) 0 _ rfl
  have c1 := K3.out.c (b := y0.heap.size) (T := 25) (vs := C5.cs q) (by simp) 1 _ rfl
  have c2 := K3.out.c (b := y0.heap.size) (T := 25) (vs := C5.cs q) (by simp) 2 _ rfl
  have c3 := K3.out.c (b := y0.heap.size) (T := 25) (vs := C5.cs q) (by simp) 3 _ rfl
  have c4 := K3.out.c (b := y0.heap.size) (T := 25) (vs := C5.cs q) (by simp) 4 _ rfl
  go_wp2_with fail
  refine (ldCan_any l g l.length c q _ T3.out rfl (HF.out.stay K3.out.1) hz).mono ?_
  rintro e y4 ⟨v, rfl, hv, hb⟩
  have HVV := Lib.hid hv
  have K4 := Lib.hid (K3.out.stay hb)
  have T4 := Lib.hid (T3.out.stay hb)
  have X4 := Lib.hid (X3.out.stay hb)
  have P4 := Lib.hid (P3.out.stay hb)
  clear hb hv K3 T3 X3 P3 c0 c1 c2 c3 c4
  cases v
  · go_wp2_with fail
    refine (ldTable_same x s2 s1 _ P4.out X4.out HSX.out.1 HSX.out.2).mono ?_
    rintro e y5 ⟨rfl, hb⟩
    have HB := Lib.hid (K4.out.stay hb).1
    clear hb
    go_wp2
    go_ret
    exact ⟨rfl, HB.out⟩
  have HO := Lib.hid (HVV.out.1 rfl)
  have HXA := Lib.hid (show x = (doV l q).1 ∧ ans = (doV l q).2 by
    have := HV.out
    rw [callV_ok HO.out] at this
    rw [this]; exact ⟨rfl, rfl⟩)
  have hxl : x.length = l.length := by rw [HXA.out.1, do_len]
  obtain ⟨gx, hs2⟩ := HA2.out (by omega)
  have hsn : s2.n = l.length := by rw [P4.out.1, hxl]
  have HXL := Lib.hid hxl
  obtain ⟨s2a, s2n, cx⟩ := s2
  dsimp only at hs2 hsn
  subst hs2 hsn
  obtain ⟨jr, hjr, hcr, hth, hkr⟩ := HO.out.run
  have hbd := C5.bd HO.out.2
  obtain ⟨ck, cr, ca, cbb, cn⟩ := q
  dsimp only at *
  subst hcr
  obtain ⟨ja, rfl⟩ : ∃ ja : Nat, ca = ja := ⟨ca.toNat, by omega⟩
  obtain ⟨jb, rfl⟩ : ∃ jb : Nat, cbb = jb := ⟨cbb.toNat, by omega⟩
  have hja : ja < 4 := by omega
  have hjb : jb < 4 := by omega
  have hjr' : (jr : Int) < (l.length : Int) := by omega
  have hja' : (ja : Int) < 4 := by omega
  have hjb' : (jb : Int) < 4 := by omega
  have wr : wrap64 ((jr : Int) + 1 - 1) = (jr : Int) := by unfold wrap64; omega
  have wr2 : IntKind.i64.wrap (jr : Int) = (jr : Int) := IntWalk.i64_in _ (by omega)
  have HBD := Lib.hid hbd
  have HTH := Lib.hid hth
  have HKR := Lib.hid hkr
  clear hbd hth hkr hxl HA2 HV HVV X4 HZS
  have c0 := K4.out.c (b := y0.heap.size) (T := 25) (vs := C5.cs ⟨ck, (jr : Int) + 1, (ja : Int), (jb : Int), cn⟩) (by simp) 0 _ rfl
  have c1 := K4.out.c (b := y0.heap.size) (T := 25) (vs := C5.cs ⟨ck, (jr : Int) + 1, (ja : Int), (jb : Int), cn⟩) (by simp) 1 _ rfl
  have c2 := K4.out.c (b := y0.heap.size) (T := 25) (vs := C5.cs ⟨ck, (jr : Int) + 1, (ja : Int), (jb : Int), cn⟩) (by simp) 2 _ rfl
  have c3 := K4.out.c (b := y0.heap.size) (T := 25) (vs := C5.cs ⟨ck, (jr : Int) + 1, (ja : Int), (jb : Int), cn⟩) (by simp) 3 _ rfl
  have c4 := K4.out.c (b := y0.heap.size) (T := 25) (vs := C5.cs ⟨ck, (jr : Int) + 1, (ja : Int), (jb : Int), cn⟩) (by simp) 4 _ rfl
  go_wp2
  go_loopw [9] (fun i wr => ∃ k : Nat, k ≤ l.length ∧ i = .int .i64 k ∧ Below y4.heap.size y4 wr) (fun i _ => l.length - (intOf i).toNat)
  case atStart => exact ⟨0, Nat.zero_le _, rfl, Below.refl _ _⟩
  case round =>
    obtain ⟨k, hk, rfl, B0⟩ := hrel
    obtain ⟨wA, hwA⟩ : ∃ wA, wA = wr := ⟨_, rfl⟩
    subst hwA
    have HB := Lib.hid B0
    have KK := Lib.hid (K4.out.stay B0)
    have TK := Lib.hid (T4.out.stay B0)
    have PK := Lib.hid (P4.out.stay B0)
    clear B0 c0 c1 c2 c3 c4
    by_cases hlt : ¬ k < l.length
    · have hlt' : ¬ (k : Int) < (l.length : Int) := fun h => hlt ((ltn k l.length).2 h)
      go_wp2
      go_ret
      exact ⟨by simp, KK.out.1⟩
    have hkl : k < l.length := Classical.not_not.1 hlt
    have hlt' := (ltn k l.length).1 hkl
    obtain ⟨k1, hk1⟩ : ∃ k1, k + 1 = k1 := ⟨_, rfl⟩
    have HK1 := Lib.hid hk1
    obtain ⟨wk, wk2, wk3', wk4⟩ := wkk hk1 (kin hkl l8)
    obtain ⟨ss, qs, hR, hQ, hA⟩ := TK.out.cells hkl
    obtain ⟨sx, qx, hR', hQ', hA'⟩ := PK.out.cells (i := k) (by rw [HXL.out]; exact hkl)
    obtain ⟨y, hy⟩ : ∃ y, l[k] = y := ⟨_, rfl⟩
    obtain ⟨z, hz'⟩ : ∃ z, x[k]'(by rw [HXL.out]; exact hkl) = z := ⟨_, rfl⟩
    have hxk := get_of HXA.out.1 (i := k) (by rw [HXL.out]; exact hkl)
    have hnk := num_kept HO.out hkl
    have hqk := fun q => queue_kept HO.out hkl (q := q)
    rw [← hxk, hy, hz'] at hnk
    have hqk : ∀ q, q ∈ z.queue → q = cn ∨ q ∈ y.queue := fun q hq => by
      have h := hqk q (by rw [← hxk, hz']; exact hq)
      rw [hy] at h; exact h
    have hzo : okT z = true := by
      have h := (stp_ok HO.out hkl (ans_bd HO.out) (do_step HO.out k hkl)).1
      rw [← hxk, hz'] at h; exact h
    have hyo : okT y = true := by rw [← hy]; exact tab_okT HO.out.tab hkl
    rw [hy] at hR hQ hA
    rw [hz'] at hR' hQ' hA'
    have d4 : wA.cell? ⟨g, k * 8 + 4, none⟩ = some (.int .i64 y.num) := hA 4 _ rfl
    have d6 : wA.cell? ⟨g, k * 8 + 6, none⟩ = some (.slice qs.a qs.n qs.c) := hA 6 _ rfl
    have e0 : wA.cell? ⟨gx, k * 8, none⟩ = some (.int .i64 z.kind) := hA' 0 _ rfl
    have e4 : wA.cell? ⟨gx, k * 8 + 4, none⟩ = some (.int .i64 z.num) := hA' 4 _ rfl
    have e6 : wA.cell? ⟨gx, k * 8 + 6, none⟩ = some (.slice qx.a qx.n qx.c) := hA' 6 _ rfl
    have hqn1 := hQ.len
    have hqn2 := hQ'.len
    have HQK := Lib.hid hqk
    have HQ1 := Lib.hid hQ
    have HQ2 := Lib.hid hQ'
    have HA1 := Lib.hid hA
    have HA2 := Lib.hid hA'
    have hb1 := (okT_queue hyo).1
    have hb2 := (okT_queue hzo).1
    have hk4 : z.kind = 1 → z.queue = [] := fun h => by
      have h4 : okT4 z = true := by simp only [okT, Bool.and_eq_true] at hzo; exact hzo.2.2.2.2.2
      simp only [okT4, Bool.and_eq_true] at h4
      have := h4.1
      simp [h] at this
      exact this
    rw [← hqn1] at hb1
    rw [← hqn2] at hb2
    have HQN1 := Lib.hid hqn1
    have HQN2 := Lib.hid hqn2
    have c4 := KK.out.c (b := y0.heap.size) (T := 25) (vs := C5.cs ⟨ck, (jr : Int) + 1, (ja : Int), (jb : Int), cn⟩) (by simp) 4 _ rfl
    have hcn : Int.tmod cn 2 = cn % 2 := Int.tmod_eq_emod_of_nonneg HBD.out.2.2.2.2.1
    clear hR hQ hR' hQ' hA hA' hy hz' hxk hqk hlt hk1
    by_cases hz1 : z.kind = 1
    · as_aux_lemma =>
        have hqe := hk4 hz1
        have hnk2 := hnk hz1
        clear hnk
        rw [hqe, List.length_nil] at hqn2
        obtain ⟨zk, zs, zv, zr, zn, zsl, zq, zt⟩ := z
        obtain ⟨yk, ys, yv, yr, yn, ysl, yq, yt⟩ := y
        obtain ⟨xa, xn, xc⟩ := qx
        obtain ⟨ya, yqn, yc⟩ := qs
        dsimp only at *
        subst hz1 hqn2
        have hways : zn = yn ∨ (zn == yn) = false ∧ zn = 0 ∨ (zn == yn) = false ∧ (zn == 0) = false ∧ zn = cn ∨ (zn == yn) = false ∧ (zn == 0) = false ∧ (zn == cn) = false ∧ zn = cn % 2 := by
          by_cases h1 : zn = yn
          · exact .inl h1
          by_cases h2 : zn = 0
          · exact .inr (.inl ⟨by simpa using h1, h2⟩)
          by_cases h3 : zn = cn
          · exact .inr (.inr (.inl ⟨by simpa using h1, by simpa using h2, h3⟩))
          · exact .inr (.inr (.inr ⟨by simpa using h1, by simpa using h2, by simpa using h3, ((hnk2.resolve_left h1).resolve_left h2).resolve_left h3⟩))
        have HCN := Lib.hid hcn
        clear hnk2 hqe hqn1 hb1 hb2 HQK HQ1 HQ2 hk4 hzo hyo HQN1 HQN2 hcn
        rcases hways with rfl | ⟨h1, rfl⟩ | ⟨h1, h2, rfl⟩ | ⟨h1, h2, h3, rfl⟩
        all_goals
          try have hcn := HCN.out
          try have g1 := bne_of h1
          try have g2 := bne_of h2
          try have g3 := bne_of h3
          go_wp2
          go_loopw [11] (fun i wr2 => i = .int .i64 0 ∧ wr2 = wA) (fun i _ => 0)
          case atStart => exact ⟨rfl, rfl⟩
          case round =>
            obtain ⟨rfl, rfl⟩ := hrel
            go_wp2
            go_roundw
            case rel => exact ⟨k1, lek1 HK1.out hkl, rfl, HB.out⟩
            case measure => exact mnk HK1.out hkl
    have hz1' : (z.kind == 1) = false := by simpa using hz1
    obtain ⟨xa, xn, xc⟩ := qx
    obtain ⟨ya, yqn, yc⟩ := qs
    obtain ⟨Z, hZ⟩ : ∃ Z, z.queue = Z := ⟨_, rfl⟩
    obtain ⟨W, hW⟩ : ∃ W, y.queue = W := ⟨_, rfl⟩
    rw [hZ] at HQK HQ2 HQN2
    rw [hW] at HQK HQ1 HQN1
    dsimp only at d6 e6 hb1 hb2 HQN1 HQN2
    clear hnk hqn1 hqn2 hk4 hzo hyo hz1 hcn hZ hW
    go_wp2
    go_loopw [11] (fun i wr2 => ∃ j : Nat, j ≤ xn ∧ i = .int .i64 j ∧ Below wA.heap.size wA wr2) (fun i _ => xn - (intOf i).toNat)
    case atStart => exact ⟨0, Nat.zero_le _, rfl, Below.refl _ _⟩
    case round =>
      obtain ⟨j, hj, rfl, B0⟩ := hrel
      obtain ⟨wB, hwB⟩ : ∃ wB, wB = wr := ⟨_, rfl⟩
      subst hwB
      have HB2 := Lib.hid B0
      have K2 := Lib.hid (KK.out.stay B0)
      have e6' := stayCell e6 B0
      have d6' := stayCell d6 B0
      clear B0
      by_cases hlj : ¬ j < xn
      · have hlj' : ¬ (j : Int) < (xn : Int) := fun h => hlj ((ltn j xn).2 h)
        go_wp2
        go_roundw
        case rel => exact ⟨k1, lek1 HK1.out hkl, rfl, HB.out.trans (HB2.out.mono HB.out.size)⟩
        case measure => exact mnk HK1.out hkl
      have hjl : j < xn := Classical.not_not.1 hlj
      have hlj' := (ltn j xn).1 hjl
      obtain ⟨j1, hj1⟩ : ∃ j1, j + 1 = j1 := ⟨_, rfl⟩
      have HJ1 := Lib.hid hj1
      obtain ⟨wj, wj2, wj3, wj4⟩ := wkk hj1 (qin hjl hb2)
      obtain ⟨b2, o2, eb2, hx0⟩ := HQ2.out.at (i := j) (by rw [← HQN2.out]; exact hjl)
      dsimp only at eb2
      subst eb2
      obtain ⟨q, hq⟩ : ∃ q, Z[j]'(by rw [← HQN2.out]; exact hjl) = q := ⟨_, rfl⟩
      have x0 : wB.cell? ⟨b2, o2 + j, none⟩ = some (.int .i64 q) := by rw [← hq]; exact stayCell hx0 HB2.out
      have HQQ := Lib.hid (HQK.out q (by rw [← hq]; exact List.getElem_mem _))
      have c4' := K2.out.c (b := y0.heap.size) (T := 25) (vs := C5.cs ⟨ck, (jr : Int) + 1, (ja : Int), (jb : Int), cn⟩) (by simp) 4 _ rfl
      obtain ⟨b0, hb0⟩ : ∃ b0, (q == cn) = b0 := ⟨_, rfl⟩
      have HF0 := Lib.hid (q_first (Q := W) hb0)
      clear hx0 hq hlj hj1 c4 d4 e0 e4
      go_upto_region 17 with fail
      go_quiet (fail)
      obtain ⟨w3, hw3⟩ : ∃ Y', wB.drewN nq = Y' := ⟨_, rfl⟩
      have BQ := Lib.hid (show Below wB.heap.size wB w3 from hw3 ▸ drewNB (Below.refl _ _) nq)
      rw [hw3]
      have e63 := stayCell e6' BQ.out
      have d63 := stayCell d6' BQ.out
      have x03 := stayCell x0 BQ.out
      clear hw3 e6' d6' x0 c4' hb0
      go_wp2
      go_loopw [12, 13] (fun f i wr3 => ∃ (m : Nat) (b : Bool), f = .bool b ∧ i = .int .i64 m ∧ m ≤ yqn ∧ (b = false → q ≠ cn ∧ ∀ j (hj : j < W.length), j < m → W[j] ≠ q) ∧ Below w3.heap.size w3 wr3) (fun _ i _ => yqn - (intOf i).toNat)
      case atStart => exact ⟨0, b0, rfl, rfl, Nat.zero_le _, HF0.out, Below.refl _ _⟩
      case round =>
        obtain ⟨m, b, rfl, rfl, hm, hbb, B0⟩ := hrel
        have HBB := Lib.hid hbb
        have HB3 := Lib.hid B0
        have e64 := stayCell e63 B0
        have d64 := stayCell d63 B0
        have x04 := stayCell x03 B0
        clear B0 hbb
        by_cases hlm : ¬ m < yqn
        · have hlm' : ¬ (m : Int) < (yqn : Int) := fun h => hlm ((ltn m yqn).2 h)
          have hbt : b = true := q_found HQQ.out (fun e => ⟨(HBB.out e).1, fun j hj _ => (HBB.out e).2 j hj (by rw [← HQN1.out] at hj; exact Nat.lt_of_lt_of_le hj (Nat.le_of_not_lt hlm))⟩)
          subst hbt
          go_wp2
          go_roundw
          case rel => exact ⟨j1, lek1 HJ1.out hjl, rfl, HB2.out.trans ((BQ.out.trans (HB3.out.mono BQ.out.size)).mono HB2.out.size)⟩
          case measure => exact mnk HJ1.out hjl
        have hml : m < yqn := Classical.not_not.1 hlm
        have hlm' := (ltn m yqn).1 hml
        obtain ⟨m1, hm1⟩ : ∃ m1, m + 1 = m1 := ⟨_, rfl⟩
        have HM1 := Lib.hid hm1
        obtain ⟨wm, wm2, wm3, wm4⟩ := wkk hm1 (qin hml hb1)
        have hWm : m < W.length := by rw [← HQN1.out]; exact hml
        obtain ⟨b3, o3, eb3, hy0⟩ := HQ1.out.at (i := m) hWm
        dsimp only at eb3
        subst eb3
        obtain ⟨u, hu⟩ : ∃ u, W[m]'hWm = u := ⟨_, rfl⟩
        have y0' : wr.cell? ⟨b3, o3 + m, none⟩ = some (.int .i64 u) := by rw [← hu]; exact stayCell (stayCell (stayCell hy0 HB2.out) BQ.out) HB3.out
        clear hy0 hlm hm1
        have HU := Lib.hid hu
        clear hu
        cases b
        · by_cases huq : u = q
          · subst huq
            go_upto_region 21 with fail
            go_quiet (fail)
            go_wp2
            go_roundw
            case rel => exact ⟨m1, true, rfl, rfl, lek1 HM1.out hml, fun e => (by cases e), drewNB HB3.out _⟩
            case measure => exact mnk HM1.out hml
          · have huq' : (u == q) = false := by simpa using huq
            have HNE := Lib.hid huq
            clear huq
            go_upto_region 21 with fail
            go_quiet (fail)
            go_wp2
            go_roundw
            case rel => exact ⟨m1, false, rfl, rfl, lek1 HM1.out hml, HM1.out ▸ q_more hWm HBB.out (by rw [HU.out]; exact HNE.out), drewNB HB3.out _⟩
            case measure => exact mnk HM1.out hml
        · go_upto_region 21 with fail
          go_quiet (fail)
          go_wp2
          go_roundw
          case rel => exact ⟨m1, true, rfl, rfl, lek1 HM1.out hml, fun e => (by cases e), drewNB HB3.out _⟩
          case measure => exact mnk HM1.out hml
end Go.Proofs.YtbopficnajdaoaaGreatDoor
