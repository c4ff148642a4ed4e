/-
  A call drawn, and a table with a call.
-/
import Derived.Test.YtohfincnjhemfaaDoorDrawCk
import Derived.Test.YtohfincnjhemfaaDoorChF
import Derived.Deep.CutBlock
namespace Go.Proofs.YtohfincnjhemfaaDoor
open Go.RowKit
set_option maxRecDepth 100000
set_option linter.unusedVariables false

theorem putCA (q : C5) (z : Int) : (C5.cs q).setIfInBounds 2 (.int .i64 z) = C5.cs ⟨q.k, q.r, z, q.b, q.n⟩ := by simp
theorem putCK (q : C5) (z : Int) : (C5.cs q).setIfInBounds 0 (.int .i64 z) = C5.cs ⟨z, q.r, q.a, q.b, q.n⟩ := by simp
theorem putCN (q : C5) (z : Int) : (C5.cs q).setIfInBounds 4 (.int .i64 z) = C5.cs ⟨q.k, q.r, q.a, q.b, z⟩ := by simp
theorem l6In_val3 {n lo hi : Int} {b : Bool} (h : inR n lo hi = b) (w : World) :
    Calls Tryd.prog 52 #[.int .i64 n, .int .i64 lo, .int .i64 hi] w fun e w' => e = .returned (.bool b) ∧ w' = w := (l6In_val h w).mono fun e w' h => ⟨h.1, h.2.symm⟩
theorem St.drewN {w W : World} {r : Nat} {a : Option Addr} {len cap : Nat} {zs : List Int} {p : Nat} {L : List Blk3} (h : St w r a len cap zs p L W) (n : Nat) : St w r a len cap zs p L (W.drewN n) := h.on ((Grew.refl _ _).drewN n) h.2.1
theorem TaO.call {n0 : Nat} {W : World} {v : Value} {ts : List Tr} (h : TaO n0 W v ts) {b i : Nat} {cs : Array Value} (hb : Box W b 37 cs) (u : Value) : TaO n0 (W.setCell ⟨b, i, none⟩ u) v ts :=
  h.keep fun b' T' cs' hb' bx hT => bx.other (Box.ne bx hb (by rcases hT with rfl | rfl | rfl <;> decide)) u
/-- What a call drawn leaves. -/
def CallPost (r : Nat) (a : Option Addr) (len cap : Nat) (zs : List Int) (p : Nat) (w : World) (e : Ending) (w' : World) : Prop :=
  ∃ q : C5, e = .returned (.agg #[.int .i64 q.k, .int .i64 q.r, .int .i64 q.a, .int .i64 q.b, .int .i64 q.n]) ∧ ∃ p', p' ≤ p + 100 ∧ Rd w' r a len cap zs p' ∧ Grew r w w'
theorem infoC : (Tryd.prog.info? 37).map (·.size) = some 5 := by kernel_rfl
theorem one5c (q : C5) : (C5.cs q).all (·.oneCell') = true := by simp [Value.oneCell']

set_option maxHeartbeats 16000000 in
theorem l71Call_any (r : Nat) (a : Option Addr) (len cap : Nat) (zs : List Int) (p : Nat) (w : World) (hR : Rd w r a len cap zs p) (hp : p ≤ 100000) (n0 g c N : Nat) (ts : List Tr) (hT : TaO n0 w (.slice (some ⟨g, 0, none⟩) N c) ts) (hr : r < n0) (hn0 : n0 ≤ w.heap.size) (hN : ts.length = N) (h3 : 3 ≤ N) (h8 : N ≤ 8) :
    Calls Tryd.prog 61 #[.pointer (some ⟨r, 0, none⟩), .slice (some ⟨g, 0, none⟩) N c] w (CallPost r a len cap zs p w) := by
  have S0 := Lib.hid ((St.start hR).new 37 #[.int .i64 0, .int .i64 0, .int .i64 0, .int .i64 0, .int .i64 0])
  have T0 := Lib.hid (hT.stay ((Below.refl _ _).alloc (Nat.le_refl _) (.cells #[.int .i64 0, .int .i64 0, .int .i64 0, .int .i64 0, .int .i64 0] 37)))
  have HN := Lib.hid hN
  have hrw := hr
  clear hR hT hN
  unfold CallPost
  go_enter Tryd.func61, Tryd.ntmps61
  go_wp2_with fail
  refine (pick_any _ a _ cap zs (p) 9 _ S0.out.2.1 (by omega) (by decide) (by decide)).mono ?_
  rintro e x1 ⟨n1, n1a, n1b, rfl, rr, gg, -⟩
  have S1 := Lib.hid (S0.out.on gg rr)
  have T1 := Lib.hid (T0.out.grew hrw gg)
  clear rr gg S0 T0
  go_wp2_with fail
  refine (l71Run_any _ a _ cap zs (p + 1) _ S1.out.2.1 (by omega) n0 g c N ts T1.out hr HN.out h3 h8).mono ?_
  rintro e x2 ⟨rn, rfl, k1, k2, p2, hp2, rr, gg⟩
  have S2 := Lib.hid (S1.out.on gg rr)
  have T2 := Lib.hid (T1.out.grew hrw gg)
  clear rr gg S1 T1
  go_wp2_with fail
  refine (pick_any _ a _ cap zs (p2) 4 _ S2.out.2.1 (by omega) (by decide) (by decide)).mono ?_
  rintro e x3 ⟨n3, n3a, n3b, rfl, rr, gg, -⟩
  have S3 := Lib.hid (S2.out.on gg rr)
  have T3 := Lib.hid (T2.out.grew hrw gg)
  clear rr gg S2 T2
  go_wp2_with fail
  refine (pick_any _ a _ cap zs (p2 + 1) 4 _ S3.out.2.1 (by omega) (by decide) (by decide)).mono ?_
  rintro e x4 ⟨n4, n4a, n4b, rfl, rr, gg, -⟩
  have S4 := Lib.hid (S3.out.on gg rr)
  have T4 := Lib.hid (T3.out.grew hrw gg)
  clear rr gg S3 T3
  go_wp2_with fail
  refine (pick_any _ a _ cap zs (p2 + 1 + 1) 20 _ S4.out.2.1 (by omega) (by decide) (by decide)).mono ?_
  rintro e x5 ⟨n5, n5a, n5b, rfl, rr, gg, -⟩
  have S5 := Lib.hid (S4.out.on gg rr)
  have T5 := Lib.hid (T4.out.grew hrw gg)
  clear rr gg S4 T4
  obtain ⟨W6, hW6⟩ : ∃ W6, x5.alloc (.cells (C5.cs ⟨1 + n1, rn, n3, n4, n5⟩) 37) = W6 := ⟨_, rfl⟩
  have s6 := S5.out.new 37 (C5.cs ⟨1 + n1, rn, n3, n4, n5⟩)
  have t6 := T5.out.stay ((Below.refl _ _).alloc (Nat.le_refl _) (.cells (C5.cs ⟨1 + n1, rn, n3, n4, n5⟩) 37))
  rw [hW6] at s6 t6
  have hx5 : w.heap.size < x5.heap.size := (S5.out.1.2 (w.heap.size, 37, #[.int .i64 0, .int .i64 0, .int .i64 0, .int .i64 0, .int .i64 0]) (by simp)).1.lt
  obtain ⟨cb, hcb⟩ : ∃ cb, x5.heap.size = cb := ⟨_, rfl⟩
  rw [hcb] at s6 hx5
  have S6 := Lib.hid s6
  have T6 := Lib.hid t6
  have hcn : cb ≠ w.heap.size := by omega
  clear s6 t6 S5 T5
  go_upto_block 0 with fail
  go_cut [6] (fun v wx => ∃ (p' : Nat) (q : C5), p' ≤ p + 60 ∧ St w r a len cap zs p' [(cb, 37, C5.cs q), (w.heap.size, 37, #[.int .i64 0, .int .i64 0, .int .i64 0, .int .i64 0, .int .i64 0])] wx)
  case first =>
    go_wp2_with fail
    go_loopw [6] (fun i wr => ∃ (k p' : Nat) (q : C5), i = .int .i64 k ∧ k ≤ 6 ∧ p' ≤ p + 30 + 3 * k ∧ 1 ≤ q.k ∧ q.k ≤ 9 ∧ 1 ≤ q.r ∧ q.r ≤ N ∧ 0 ≤ q.a ∧ q.a ≤ 3 ∧ St w r a len cap zs p' [(cb, 37, C5.cs q), (w.heap.size, 37, #[.int .i64 0, .int .i64 0, .int .i64 0, .int .i64 0, .int .i64 0])] wr ∧ TaO n0 wr (.slice (some ⟨g, 0, none⟩) N c) ts) (fun i _ => 6 - (intOf i).toNat)
    case atStart => exact ⟨0, p2 + 1 + 1 + 1, ⟨1 + n1, rn, n3, n4, n5⟩, rfl, by omega, by omega, by dsimp only; omega, by dsimp only; omega, k1, k2, n3a, by dsimp only; omega, S6.out, T6.out⟩
    case round =>
      clear S6 T6 hW6
      obtain ⟨k, pk, q, rfl, hk, hpk, q1, q2, q3, q4, q5, q6, sK, tK⟩ := hrel
      have SK := Lib.hid sK
      have TK := Lib.hid tK
      clear sK tK
      by_cases hlt : ¬ k < 6
      · have hlt' : ¬ (k : Int) < 6 := by omega
        go_wp2
        go_meet
        exact ⟨pk, q, by omega, SK.out⟩
      have hlt' : (k : Int) < 6 := by omega
      go_wp2_with fail
      refine (pick_any _ a _ cap zs pk 6 _ SK.out.2.1 (by omega) (by decide) (by decide)).mono ?_
      rintro e w4 ⟨m1, m1a, m1b, rfl, rr, gg, -⟩
      have SA := Lib.hid (SK.out.on gg rr)
      have TA := Lib.hid (TK.out.grew hrw gg)
      clear rr gg SK TK
      by_cases hm : ¬ 0 < m1
      · go_wp2
        go_meet
        exact ⟨pk + 1, q, by omega, SA.out⟩
      have hm' : 0 < m1 := by omega
      clear hm
      obtain ⟨b1, hb1⟩ : ∃ b1, isRun (ts.map (fun t : Tr => t.1)) q.r = b1 := ⟨_, rfl⟩
      have HB1 := Lib.hid hb1
      clear hb1
      have HRUN := Lib.hid (fun (y : World) (ht : TaO n0 y (.slice (some ⟨g, 0, none⟩) N c) ts) => by
        have h := l11Run_val (s := ⟨some ⟨g, 0, none⟩, N, c⟩) HB1.out y (TaO.hasT (s := ⟨some ⟨g, 0, none⟩, N, c⟩) ht) (by simp [HN.out]; omega)
        exact h)
      obtain ⟨ck, cr, ca, cbb, cn⟩ := q
      dsimp only at *
      have c0 := SA.out.1.c (b := cb) (T := 37) (vs := C5.cs ⟨ck, cr, ca, cbb, cn⟩) (by simp) 0 _ rfl
      have c1 := SA.out.1.c (b := cb) (T := 37) (vs := C5.cs ⟨ck, cr, ca, cbb, cn⟩) (by simp) 1 _ rfl
      have c2 := SA.out.1.c (b := cb) (T := 37) (vs := C5.cs ⟨ck, cr, ca, cbb, cn⟩) (by simp) 2 _ rfl
      have c3 := SA.out.1.c (b := cb) (T := 37) (vs := C5.cs ⟨ck, cr, ca, cbb, cn⟩) (by simp) 3 _ rfl
      have c4 := SA.out.1.c (b := cb) (T := 37) (vs := C5.cs ⟨ck, cr, ca, cbb, cn⟩) (by simp) 4 _ rfl
      go_wp2_with fail
      refine (HRUN.out _ TA.out).mono ?_
      rintro e y5 ⟨rfl, rfl⟩
      cases b1
      · go_wp2
        go_meet
        exact ⟨pk + 1, _, by omega, SA.out⟩
      obtain ⟨jr, hjr⟩ : ∃ j : Nat, cr - 1 = j := ⟨(cr - 1).toNat, by omega⟩
      obtain rfl : cr = (jr : Int) + 1 := by omega
      have hjN : jr < N := by omega
      have hjN' : (jr : Int) < (N : Int) := by omega
      obtain ⟨t, htt⟩ : ∃ t, ts[jr]? = some t := ⟨ts[jr]'(by rw [HN.out]; exact hjN), List.getElem?_eq_getElem _⟩
      have hA := TA.out.at htt
      have hth := (TA.out.2 t (List.mem_of_getElem? htt)).1
      have f5 := hA 5 _ rfl
      have hbl1 := cell_lt f5
      have wr : wrap64 ((jr : Int) + 1 - 1) = (jr : Int) := by unfold wrap64; omega
      have wr2 : IntKind.i64.wrap (jr : Int) = (jr : Int) := IntWalk.i64_in _ (by omega)
      obtain ⟨x, s, qq⟩ := t
      dsimp only at *
      rcases hth.1 with ⟨hn0', -⟩ | ⟨b, a1, a2, a3, a4, hb, hse, bx, -⟩
      · obtain ⟨sa, sn, sc⟩ := s
        dsimp only at hn0'
        subst hn0'
        clear hA hth htt hjr
        go_wp2
        go_meet
        exact ⟨pk + 1, _, by omega, SA.out⟩
      subst hse
      obtain ⟨ja, rfl⟩ : ∃ ja : Nat, ca = ja := ⟨ca.toNat, by omega⟩
      have hja : ja < 4 := by omega
      have hja' : (ja : Int) < 4 := by omega
      have wa : IntKind.i64.wrap (ja : Int) = (ja : Int) := IntWalk.i64_in _ (by omega)
      obtain ⟨bb, oo, eb, hAt⟩ := (four_has bx).at (i := ja) (show ja < 4 from hja)
      simp only [Option.some.injEq, Addr.mk.injEq] at eb
      obtain ⟨rfl, rfl, -⟩ := eb
      obtain ⟨z, hAt⟩ : ∃ z : R5, At w4 b (0 + ja * 5) z.cs := ⟨_, hAt⟩
      have m0 := hAt 0 _ rfl
      have m1' := hAt 1 _ rfl
      have m2 := hAt 2 _ rfl
      have m3 := hAt 3 _ rfl
      have m4 := hAt 4 _ rfl
      simp only [Nat.zero_add, Nat.add_zero] at m0 m1' m2 m3 m4
      have hbl2 := bx.lt
      have lt0 := cell_lt c2
      clear hA hth htt hjr hAt bx
      obtain ⟨W7, hW7⟩ : ∃ W7, w4.alloc (.cells z.cs 43) = W7 := ⟨_, rfl⟩
      have s7 := SA.out.new 43 z.cs
      have t7 := TA.out.stay ((Below.refl _ _).alloc (Nat.le_refl _) (.cells z.cs 43))
      rw [hW7] at s7 t7
      have S7 := Lib.hid s7
      have T7 := Lib.hid t7
      clear s7 t7
      go_upto_region 5 with fail
      go_region
      obtain ⟨W8, hW8⟩ : ∃ W8, W7.drew = W8 := ⟨_, rfl⟩
      have s8 := S7.out.drew
      have t8 := T7.out.stay (Below.refl _ _).drew
      rw [hW8] at s8 t8 ⊢
      clear hW8 S7 T7
      have S7 := Lib.hid s8
      have T7 := Lib.hid t8
      clear s8 t8
      clear hW7 c0 c1 c2 c3 c4 m0 m1' m2 m3 m4 f5 SA TA
      obtain ⟨zt, zv, zr, zw, zk⟩ := z
      have K9 := Lib.hid (show inR ck 1 9 = true by simp [inR]; omega)
      have e0 : W8.cell? ⟨w4.heap.size, 0, none⟩ = some (.int .i64 zt) := S7.out.1.c (b := w4.heap.size) (T := 43) (vs := R5.cs ⟨zt, zv, zr, zw, zk⟩) (by simp) 0 _ rfl
      have c0 : W8.cell? ⟨cb, 0, none⟩ = some (.int .i64 ck) := S7.out.1.c (b := cb) (T := 37) (vs := C5.cs ⟨ck, (jr : Int) + 1, (ja : Int), cbb, cn⟩) (by simp) 0 _ rfl
      have lt7 := cell_lt e0
      have lt8 := cell_lt c0
      by_cases hc3 : ck = 3
      · subst hc3
        go_upto_region 6 with fail
        go_quiet ((first | (go_at_call 52; refine Calls.quiet_of_same (l6In_val3 rfl _)) | (go_at_call 87; refine Calls.quiet_of_same (l11Kind_any _ _ (by assumption) (by assumption) _))))
        go_wp2
        go_meet
        exact ⟨pk + 1, ⟨3, (jr : Int) + 1, (ja : Int), cbb, cn⟩, by omega, (S7.out.drewN _).less (by simp)⟩
      have hc3' : (ck == 3) = false := by simpa using hc3
      have K3 := Lib.hid hc3
      clear hc3
      obtain ⟨b2, hb2⟩ : ∃ b2, inR zt 1 (N : Int) = b2 := ⟨_, rfl⟩
      have HB2 := Lib.hid hb2
      clear hb2
      cases b2
      · go_upto_region 6 with fail
        go_quiet ((go_at_call 52; refine Calls.quiet_of_same (l6In_val3 HB2.out _)))
        have s8 := (S7.out.drewN nq).less (L' := [(cb, 37, C5.cs ⟨ck, (jr : Int) + 1, (ja : Int), cbb, cn⟩), (w.heap.size, 37, #[.int .i64 0, .int .i64 0, .int .i64 0, .int .i64 0, .int .i64 0])]) (by simp)
        have t8 := T7.out.stay (drewNB (Below.refl _ _) nq)
        obtain ⟨Y, hY⟩ : ∃ Y, W8.drewN nq = Y := ⟨_, rfl⟩
        rw [hY] at s8 t8 ⊢
        have S8 := Lib.hid s8
        have T8 := Lib.hid t8
        clear s8 t8 hY S7 T7 e0 c0
        try clear d0
        go_wp2_with fail
        refine (pick_any _ a _ cap zs (pk + 1) 4 _ S8.out.2.1 (by omega) (by decide) (by decide)).mono ?_
        rintro e x9 ⟨n8, n8a, n8b, rfl, rr, gg, -⟩
        have S9 := Lib.hid (S8.out.on gg rr)
        have T9 := Lib.hid (T8.out.grew hrw gg)
        clear rr gg S8 T8
        have bC := (S9.out.1.2 (cb, 37, C5.cs ⟨ck, (jr : Int) + 1, (ja : Int), cbb, cn⟩) (by simp)).1
        have c2 := bC.cell 2 _ rfl
        have f2 := bC.thaw 2
        have s10 := S9.out.put (fun t ht => by simp at ht; rw [ht]; exact hcn.symm) 2 (.int .i64 n8)
        rw [putCA] at s10
        have t10 := T9.out.call (i := 2) bC (.int .i64 n8)
        have S10 := Lib.hid s10
        have T10 := Lib.hid t10
        clear s10 t10 bC S9 T9
        dsimp only at S10
        go_wp2_with fail
        refine (pick_any _ a _ cap zs (pk + 1 + 1) 9 _ S10.out.2.1 (by omega) (by decide) (by decide)).mono ?_
        rintro e x11 ⟨n9, n9a, n9b, rfl, rr, gg, -⟩
        have S11 := Lib.hid (S10.out.on gg rr)
        have T11 := Lib.hid (T10.out.grew hrw gg)
        clear rr gg S10 T10
        have bC := (S11.out.1.2 (cb, 37, C5.cs ⟨ck, (jr : Int) + 1, n8, cbb, cn⟩) (by simp)).1
        have c0 := bC.cell 0 _ rfl
        have f0 := bC.thaw 0
        have s12 := S11.out.put (fun t ht => by simp at ht; rw [ht]; exact hcn.symm) 0 (.int .i64 (1 + n9))
        rw [putCK] at s12
        have t12 := T11.out.call (i := 0) bC (.int .i64 (1 + n9))
        have S12 := Lib.hid s12
        have T12 := Lib.hid t12
        clear s12 t12 bC S11 T11 c2 f2
        go_wp2
        go_roundw
        case rel => exact ⟨k + 1, pk + 1 + 1 + 1, ⟨1 + n9, (jr : Int) + 1, n8, cbb, cn⟩, by go_num, by omega, by omega, by dsimp only; omega, by dsimp only; omega, by dsimp only; omega, by dsimp only; omega, n8a, by dsimp only; omega, S12.out, T12.out⟩
        case measure => simp [intOf]; omega
      obtain ⟨jn, hjn⟩ : ∃ j : Nat, zt - 1 = j := ⟨(zt - 1).toNat, by have h : 1 ≤ zt ∧ zt ≤ N := (by simpa [inR] using HB2.out); omega⟩
      have hjn2 : jn < N := by have h : 1 ≤ zt ∧ zt ≤ N := (by simpa [inR] using HB2.out); omega
      have hjn' : (jn : Int) < (N : Int) := by omega
      obtain rfl : zt = (jn : Int) + 1 := by omega
      have wn : wrap64 ((jn : Int) + 1 - 1) = (jn : Int) := by unfold wrap64; omega
      have wn2 : IntKind.i64.wrap (jn : Int) = (jn : Int) := IntWalk.i64_in _ (by omega)
      obtain ⟨t', htt⟩ : ∃ t, ts[jn]? = some t := ⟨ts[jn]'(by rw [HN.out]; exact hjn2), List.getElem?_eq_getElem _⟩
      have d0 : W8.cell? ⟨g, jn * 8, none⟩ = some (.int .i64 t'.1.kind) := T7.out.at htt 0 _ rfl
      generalize t'.1.kind = kd at d0
      obtain ⟨b3, hb3⟩ : ∃ b3, kindOk ck kd = b3 := ⟨_, rfl⟩
      have HB3 := Lib.hid hb3
      clear hb3 htt hjn
      cases b3
      · go_upto_region 6 with fail
        go_quiet ((first | (go_at_call 52; refine Calls.quiet_of_same (l6In_val3 HB2.out _)) | (go_at_call 87; refine Calls.quiet_of_same (l11Kind_val HB3.out K9.out K3.out _))))
        have s8 := (S7.out.drewN nq).less (L' := [(cb, 37, C5.cs ⟨ck, (jr : Int) + 1, (ja : Int), cbb, cn⟩), (w.heap.size, 37, #[.int .i64 0, .int .i64 0, .int .i64 0, .int .i64 0, .int .i64 0])]) (by simp)
        have t8 := T7.out.stay (drewNB (Below.refl _ _) nq)
        obtain ⟨Y, hY⟩ : ∃ Y, W8.drewN nq = Y := ⟨_, rfl⟩
        rw [hY] at s8 t8 ⊢
        have S8 := Lib.hid s8
        have T8 := Lib.hid t8
        clear s8 t8 hY S7 T7 e0 c0
        try clear d0
        go_wp2_with fail
        refine (pick_any _ a _ cap zs (pk + 1) 4 _ S8.out.2.1 (by omega) (by decide) (by decide)).mono ?_
        rintro e x9 ⟨n8, n8a, n8b, rfl, rr, gg, -⟩
        have S9 := Lib.hid (S8.out.on gg rr)
        have T9 := Lib.hid (T8.out.grew hrw gg)
        clear rr gg S8 T8
        have bC := (S9.out.1.2 (cb, 37, C5.cs ⟨ck, (jr : Int) + 1, (ja : Int), cbb, cn⟩) (by simp)).1
        have c2 := bC.cell 2 _ rfl
        have f2 := bC.thaw 2
        have s10 := S9.out.put (fun t ht => by simp at ht; rw [ht]; exact hcn.symm) 2 (.int .i64 n8)
        rw [putCA] at s10
        have t10 := T9.out.call (i := 2) bC (.int .i64 n8)
        have S10 := Lib.hid s10
        have T10 := Lib.hid t10
        clear s10 t10 bC S9 T9
        dsimp only at S10
        go_wp2_with fail
        refine (pick_any _ a _ cap zs (pk + 1 + 1) 9 _ S10.out.2.1 (by omega) (by decide) (by decide)).mono ?_
        rintro e x11 ⟨n9, n9a, n9b, rfl, rr, gg, -⟩
        have S11 := Lib.hid (S10.out.on gg rr)
        have T11 := Lib.hid (T10.out.grew hrw gg)
        clear rr gg S10 T10
        have bC := (S11.out.1.2 (cb, 37, C5.cs ⟨ck, (jr : Int) + 1, n8, cbb, cn⟩) (by simp)).1
        have c0 := bC.cell 0 _ rfl
        have f0 := bC.thaw 0
        have s12 := S11.out.put (fun t ht => by simp at ht; rw [ht]; exact hcn.symm) 0 (.int .i64 (1 + n9))
        rw [putCK] at s12
        have t12 := T11.out.call (i := 0) bC (.int .i64 (1 + n9))
        have S12 := Lib.hid s12
        have T12 := Lib.hid t12
        clear s12 t12 bC S11 T11 c2 f2
        go_wp2
        go_roundw
        case rel => exact ⟨k + 1, pk + 1 + 1 + 1, ⟨1 + n9, (jr : Int) + 1, n8, cbb, cn⟩, by go_num, by omega, by omega, by dsimp only; omega, by dsimp only; omega, by dsimp only; omega, by dsimp only; omega, n8a, by dsimp only; omega, S12.out, T12.out⟩
        case measure => simp [intOf]; omega
      · go_upto_region 6 with fail
        go_quiet ((first | (go_at_call 52; refine Calls.quiet_of_same (l6In_val3 HB2.out _)) | (go_at_call 87; refine Calls.quiet_of_same (l11Kind_val HB3.out K9.out K3.out _))))
        go_wp2
        go_meet
        exact ⟨pk + 1, ⟨ck, (jr : Int) + 1, (ja : Int), cbb, cn⟩, by omega, (S7.out.drewN _).less (by simp)⟩
  case rest =>
    clear S6 T6 hW6
    obtain ⟨p3, q, hp3, sC⟩ := hcut
    have SC := Lib.hid sC
    clear sC
    go_wp2_with fail
    refine (pick_any _ a _ cap zs p3 50 _ SC.out.2.1 (by omega) (by decide) (by decide)).mono ?_
    rintro e w3 ⟨m, m0, m50, rfl, rr, gg, -⟩
    have SD := Lib.hid (SC.out.on gg rr)
    clear rr gg SC
    have fin : ∀ (q : C5) (W : World), (∃ p', p' ≤ p + 90 ∧ St w r a len cap zs p' [(cb, 37, C5.cs q), (w.heap.size, 37, #[.int .i64 0, .int .i64 0, .int .i64 0, .int .i64 0, .int .i64 0])] W) → ∃ q' : C5, True := fun q W h => ⟨q, trivial⟩
    clear fin
    by_cases h0 : m = 0
    · subst h0
      have SE := Lib.hid (SD.out.new 3 #[.int .i64 (0), .int .i64 (10)])
      go_wp2_with fail
      refine (pick_any _ a _ cap zs (p3 + 1) 2 _ SE.out.2.1 (by omega) (by decide) (by decide)).mono ?_
      rintro e w5 ⟨u, u0, u2, rfl, rr, gg, -⟩
      have SF := Lib.hid (SE.out.on gg rr)
      clear rr gg SE
      have bI := (SF.out.1.2 (w3.heap.size, 3, #[.int .i64 (0), .int .i64 (10)]) (by simp)).1
      have x0 := bI.cell 0 _ rfl
      have x1 := bI.cell 1 _ rfl
      have bC := (SF.out.1.2 (cb, 37, C5.cs q) (by simp)).1
      have y0 := bC.cell 0 _ rfl
      have z0 := bC.thaw 0
      have hu : u = 0 ∨ u = 1 := by omega
      have hu3 : w3.heap.size ≠ cb := Box.ne (T := 3) (T' := 37) bI bC (by decide)
      clear bI bC
      rcases hu with rfl | rfl
      · have sG := (SF.out.less (L' := [(cb, 37, C5.cs q), (w.heap.size, 37, #[.int .i64 0, .int .i64 0, .int .i64 0, .int .i64 0, .int .i64 0])]) (fun t ht => List.mem_cons_of_mem _ ht)).put (fun t ht => by simp at ht; rw [ht]; exact hcn.symm) 0 (.int .i64 (0))
        rw [putCK] at sG
        obtain ⟨WG, hWG⟩ : ∃ WG, w5.setCell ⟨cb, 0, none⟩ (.int .i64 (0)) = WG := ⟨_, rfl⟩
        rw [hWG] at sG
        have SG := Lib.hid sG
        clear sG SF
        have bR := (SG.out.1.2 (w.heap.size, 37, #[.int .i64 0, .int .i64 0, .int .i64 0, .int .i64 0, .int .i64 0]) (by simp)).1
        have bC := (SG.out.1.2 (cb, 37, C5.cs ⟨0, q.r, q.a, q.b, q.n⟩) (by simp)).1
        have k0 := bR.cell 0 _ rfl
        have k1' := bR.cell 1 _ rfl
        have k2' := bR.cell 2 _ rfl
        have k3' := bR.cell 3 _ rfl
        have k4' := bR.cell 4 _ rfl
        have t0 := bR.thaw 0
        have t1 := bR.thaw 1
        have t2 := bR.thaw 2
        have t3 := bR.thaw 3
        have t4 := bR.thaw 4
        have i0 := bC.cell 0 _ rfl
        have i1 := bC.cell 1 _ rfl
        have i2 := bC.cell 2 _ rfl
        have i3 := bC.cell 3 _ rfl
        have i4 := bC.cell 4 _ rfl
        clear bR bC
        go_wp2
        refine bodyPost_ret (v := .agg (C5.cs ⟨0, q.r, q.a, q.b, q.n⟩)) (by simp [results, Tryd.results61, go_sem, *]) rfl ⟨⟨0, q.r, q.a, q.b, q.n⟩, rfl, p3 + 1 + 1, by omega, ?_⟩
        have sF := SG.out
        have hsw : ∀ t ∈ ([(cb, 37, C5.cs ⟨0, q.r, q.a, q.b, q.n⟩)] : List Blk3), t.1 ≠ w.heap.size := fun t ht => by simp at ht; rw [ht]; exact hcn
        have s1 := (((((sF.less (L' := [(w.heap.size, 37, #[.int .i64 0, .int .i64 0, .int .i64 0, .int .i64 0, .int .i64 0]), (cb, 37, C5.cs ⟨0, q.r, q.a, q.b, q.n⟩)]) (fun t ht => by simp only [List.mem_cons, List.not_mem_nil, or_false] at ht ⊢; exact ht.symm)).put hsw 0 (.int .i64 (C5.k ⟨0, q.r, q.a, q.b, q.n⟩))).put hsw 1 (.int .i64 (C5.r ⟨0, q.r, q.a, q.b, q.n⟩))).put hsw 2 (.int .i64 (C5.a ⟨0, q.r, q.a, q.b, q.n⟩))).put hsw 3 (.int .i64 (C5.b ⟨0, q.r, q.a, q.b, q.n⟩))).put hsw 4 (.int .i64 (C5.n ⟨0, q.r, q.a, q.b, q.n⟩))
        exact ⟨s1.2.1, s1.1.1⟩
      · have sG := (SF.out.less (L' := [(cb, 37, C5.cs q), (w.heap.size, 37, #[.int .i64 0, .int .i64 0, .int .i64 0, .int .i64 0, .int .i64 0])]) (fun t ht => List.mem_cons_of_mem _ ht)).put (fun t ht => by simp at ht; rw [ht]; exact hcn.symm) 0 (.int .i64 (10))
        rw [putCK] at sG
        obtain ⟨WG, hWG⟩ : ∃ WG, w5.setCell ⟨cb, 0, none⟩ (.int .i64 (10)) = WG := ⟨_, rfl⟩
        rw [hWG] at sG
        have SG := Lib.hid sG
        clear sG SF
        have bR := (SG.out.1.2 (w.heap.size, 37, #[.int .i64 0, .int .i64 0, .int .i64 0, .int .i64 0, .int .i64 0]) (by simp)).1
        have bC := (SG.out.1.2 (cb, 37, C5.cs ⟨10, q.r, q.a, q.b, q.n⟩) (by simp)).1
        have k0 := bR.cell 0 _ rfl
        have k1' := bR.cell 1 _ rfl
        have k2' := bR.cell 2 _ rfl
        have k3' := bR.cell 3 _ rfl
        have k4' := bR.cell 4 _ rfl
        have t0 := bR.thaw 0
        have t1 := bR.thaw 1
        have t2 := bR.thaw 2
        have t3 := bR.thaw 3
        have t4 := bR.thaw 4
        have i0 := bC.cell 0 _ rfl
        have i1 := bC.cell 1 _ rfl
        have i2 := bC.cell 2 _ rfl
        have i3 := bC.cell 3 _ rfl
        have i4 := bC.cell 4 _ rfl
        clear bR bC
        go_wp2
        refine bodyPost_ret (v := .agg (C5.cs ⟨10, q.r, q.a, q.b, q.n⟩)) (by simp [results, Tryd.results61, go_sem, *]) rfl ⟨⟨10, q.r, q.a, q.b, q.n⟩, rfl, p3 + 1 + 1, by omega, ?_⟩
        have sF := SG.out
        have hsw : ∀ t ∈ ([(cb, 37, C5.cs ⟨10, q.r, q.a, q.b, q.n⟩)] : List Blk3), t.1 ≠ w.heap.size := fun t ht => by simp at ht; rw [ht]; exact hcn
        have s1 := (((((sF.less (L' := [(w.heap.size, 37, #[.int .i64 0, .int .i64 0, .int .i64 0, .int .i64 0, .int .i64 0]), (cb, 37, C5.cs ⟨10, q.r, q.a, q.b, q.n⟩)]) (fun t ht => by simp only [List.mem_cons, List.not_mem_nil, or_false] at ht ⊢; exact ht.symm)).put hsw 0 (.int .i64 (C5.k ⟨10, q.r, q.a, q.b, q.n⟩))).put hsw 1 (.int .i64 (C5.r ⟨10, q.r, q.a, q.b, q.n⟩))).put hsw 2 (.int .i64 (C5.a ⟨10, q.r, q.a, q.b, q.n⟩))).put hsw 3 (.int .i64 (C5.b ⟨10, q.r, q.a, q.b, q.n⟩))).put hsw 4 (.int .i64 (C5.n ⟨10, q.r, q.a, q.b, q.n⟩))
        exact ⟨s1.2.1, s1.1.1⟩
    have h0' : (m == 0) = false := by simpa using h0
    by_cases h1 : m = 1
    · subst h1
      have SE := Lib.hid (SD.out.new 3 #[.int .i64 (-1), .int .i64 (4)])
      go_wp2_with fail
      refine (pick_any _ a _ cap zs (p3 + 1) 2 _ SE.out.2.1 (by omega) (by decide) (by decide)).mono ?_
      rintro e w5 ⟨u, u0, u2, rfl, rr, gg, -⟩
      have SF := Lib.hid (SE.out.on gg rr)
      clear rr gg SE
      have bI := (SF.out.1.2 (w3.heap.size, 3, #[.int .i64 (-1), .int .i64 (4)]) (by simp)).1
      have x0 := bI.cell 0 _ rfl
      have x1 := bI.cell 1 _ rfl
      have bC := (SF.out.1.2 (cb, 37, C5.cs q) (by simp)).1
      have y0 := bC.cell 2 _ rfl
      have z0 := bC.thaw 2
      have hu : u = 0 ∨ u = 1 := by omega
      have hu3 : w3.heap.size ≠ cb := Box.ne (T := 3) (T' := 37) bI bC (by decide)
      clear bI bC
      rcases hu with rfl | rfl
      · have sG := (SF.out.less (L' := [(cb, 37, C5.cs q), (w.heap.size, 37, #[.int .i64 0, .int .i64 0, .int .i64 0, .int .i64 0, .int .i64 0])]) (fun t ht => List.mem_cons_of_mem _ ht)).put (fun t ht => by simp at ht; rw [ht]; exact hcn.symm) 2 (.int .i64 (-1))
        rw [putCA] at sG
        obtain ⟨WG, hWG⟩ : ∃ WG, w5.setCell ⟨cb, 2, none⟩ (.int .i64 (-1)) = WG := ⟨_, rfl⟩
        rw [hWG] at sG
        have SG := Lib.hid sG
        clear sG SF
        have bR := (SG.out.1.2 (w.heap.size, 37, #[.int .i64 0, .int .i64 0, .int .i64 0, .int .i64 0, .int .i64 0]) (by simp)).1
        have bC := (SG.out.1.2 (cb, 37, C5.cs ⟨q.k, q.r, -1, q.b, q.n⟩) (by simp)).1
        have k0 := bR.cell 0 _ rfl
        have k1' := bR.cell 1 _ rfl
        have k2' := bR.cell 2 _ rfl
        have k3' := bR.cell 3 _ rfl
        have k4' := bR.cell 4 _ rfl
        have t0 := bR.thaw 0
        have t1 := bR.thaw 1
        have t2 := bR.thaw 2
        have t3 := bR.thaw 3
        have t4 := bR.thaw 4
        have i0 := bC.cell 0 _ rfl
        have i1 := bC.cell 1 _ rfl
        have i2 := bC.cell 2 _ rfl
        have i3 := bC.cell 3 _ rfl
        have i4 := bC.cell 4 _ rfl
        clear bR bC
        go_wp2
        refine bodyPost_ret (v := .agg (C5.cs ⟨q.k, q.r, -1, q.b, q.n⟩)) (by simp [results, Tryd.results61, go_sem, *]) rfl ⟨⟨q.k, q.r, -1, q.b, q.n⟩, rfl, p3 + 1 + 1, by omega, ?_⟩
        have sF := SG.out
        have hsw : ∀ t ∈ ([(cb, 37, C5.cs ⟨q.k, q.r, -1, q.b, q.n⟩)] : List Blk3), t.1 ≠ w.heap.size := fun t ht => by simp at ht; rw [ht]; exact hcn
        have s1 := (((((sF.less (L' := [(w.heap.size, 37, #[.int .i64 0, .int .i64 0, .int .i64 0, .int .i64 0, .int .i64 0]), (cb, 37, C5.cs ⟨q.k, q.r, -1, q.b, q.n⟩)]) (fun t ht => by simp only [List.mem_cons, List.not_mem_nil, or_false] at ht ⊢; exact ht.symm)).put hsw 0 (.int .i64 (C5.k ⟨q.k, q.r, -1, q.b, q.n⟩))).put hsw 1 (.int .i64 (C5.r ⟨q.k, q.r, -1, q.b, q.n⟩))).put hsw 2 (.int .i64 (C5.a ⟨q.k, q.r, -1, q.b, q.n⟩))).put hsw 3 (.int .i64 (C5.b ⟨q.k, q.r, -1, q.b, q.n⟩))).put hsw 4 (.int .i64 (C5.n ⟨q.k, q.r, -1, q.b, q.n⟩))
        exact ⟨s1.2.1, s1.1.1⟩
      · have sG := (SF.out.less (L' := [(cb, 37, C5.cs q), (w.heap.size, 37, #[.int .i64 0, .int .i64 0, .int .i64 0, .int .i64 0, .int .i64 0])]) (fun t ht => List.mem_cons_of_mem _ ht)).put (fun t ht => by simp at ht; rw [ht]; exact hcn.symm) 2 (.int .i64 (4))
        rw [putCA] at sG
        obtain ⟨WG, hWG⟩ : ∃ WG, w5.setCell ⟨cb, 2, none⟩ (.int .i64 (4)) = WG := ⟨_, rfl⟩
        rw [hWG] at sG
        have SG := Lib.hid sG
        clear sG SF
        have bR := (SG.out.1.2 (w.heap.size, 37, #[.int .i64 0, .int .i64 0, .int .i64 0, .int .i64 0, .int .i64 0]) (by simp)).1
        have bC := (SG.out.1.2 (cb, 37, C5.cs ⟨q.k, q.r, 4, q.b, q.n⟩) (by simp)).1
        have k0 := bR.cell 0 _ rfl
        have k1' := bR.cell 1 _ rfl
        have k2' := bR.cell 2 _ rfl
        have k3' := bR.cell 3 _ rfl
        have k4' := bR.cell 4 _ rfl
        have t0 := bR.thaw 0
        have t1 := bR.thaw 1
        have t2 := bR.thaw 2
        have t3 := bR.thaw 3
        have t4 := bR.thaw 4
        have i0 := bC.cell 0 _ rfl
        have i1 := bC.cell 1 _ rfl
        have i2 := bC.cell 2 _ rfl
        have i3 := bC.cell 3 _ rfl
        have i4 := bC.cell 4 _ rfl
        clear bR bC
        go_wp2
        refine bodyPost_ret (v := .agg (C5.cs ⟨q.k, q.r, 4, q.b, q.n⟩)) (by simp [results, Tryd.results61, go_sem, *]) rfl ⟨⟨q.k, q.r, 4, q.b, q.n⟩, rfl, p3 + 1 + 1, by omega, ?_⟩
        have sF := SG.out
        have hsw : ∀ t ∈ ([(cb, 37, C5.cs ⟨q.k, q.r, 4, q.b, q.n⟩)] : List Blk3), t.1 ≠ w.heap.size := fun t ht => by simp at ht; rw [ht]; exact hcn
        have s1 := (((((sF.less (L' := [(w.heap.size, 37, #[.int .i64 0, .int .i64 0, .int .i64 0, .int .i64 0, .int .i64 0]), (cb, 37, C5.cs ⟨q.k, q.r, 4, q.b, q.n⟩)]) (fun t ht => by simp only [List.mem_cons, List.not_mem_nil, or_false] at ht ⊢; exact ht.symm)).put hsw 0 (.int .i64 (C5.k ⟨q.k, q.r, 4, q.b, q.n⟩))).put hsw 1 (.int .i64 (C5.r ⟨q.k, q.r, 4, q.b, q.n⟩))).put hsw 2 (.int .i64 (C5.a ⟨q.k, q.r, 4, q.b, q.n⟩))).put hsw 3 (.int .i64 (C5.b ⟨q.k, q.r, 4, q.b, q.n⟩))).put hsw 4 (.int .i64 (C5.n ⟨q.k, q.r, 4, q.b, q.n⟩))
        exact ⟨s1.2.1, s1.1.1⟩
    have h1' : (m == 1) = false := by simpa using h1
    by_cases h2 : m = 2
    · subst h2
      have SE := Lib.hid (SD.out.new 3 #[.int .i64 (-1), .int .i64 (100)])
      go_wp2_with fail
      refine (pick_any _ a _ cap zs (p3 + 1) 2 _ SE.out.2.1 (by omega) (by decide) (by decide)).mono ?_
      rintro e w5 ⟨u, u0, u2, rfl, rr, gg, -⟩
      have SF := Lib.hid (SE.out.on gg rr)
      clear rr gg SE
      have bI := (SF.out.1.2 (w3.heap.size, 3, #[.int .i64 (-1), .int .i64 (100)]) (by simp)).1
      have x0 := bI.cell 0 _ rfl
      have x1 := bI.cell 1 _ rfl
      have bC := (SF.out.1.2 (cb, 37, C5.cs q) (by simp)).1
      have y0 := bC.cell 4 _ rfl
      have z0 := bC.thaw 4
      have hu : u = 0 ∨ u = 1 := by omega
      have hu3 : w3.heap.size ≠ cb := Box.ne (T := 3) (T' := 37) bI bC (by decide)
      clear bI bC
      rcases hu with rfl | rfl
      · have sG := (SF.out.less (L' := [(cb, 37, C5.cs q), (w.heap.size, 37, #[.int .i64 0, .int .i64 0, .int .i64 0, .int .i64 0, .int .i64 0])]) (fun t ht => List.mem_cons_of_mem _ ht)).put (fun t ht => by simp at ht; rw [ht]; exact hcn.symm) 4 (.int .i64 (-1))
        rw [putCN] at sG
        obtain ⟨WG, hWG⟩ : ∃ WG, w5.setCell ⟨cb, 4, none⟩ (.int .i64 (-1)) = WG := ⟨_, rfl⟩
        rw [hWG] at sG
        have SG := Lib.hid sG
        clear sG SF
        have bR := (SG.out.1.2 (w.heap.size, 37, #[.int .i64 0, .int .i64 0, .int .i64 0, .int .i64 0, .int .i64 0]) (by simp)).1
        have bC := (SG.out.1.2 (cb, 37, C5.cs ⟨q.k, q.r, q.a, q.b, -1⟩) (by simp)).1
        have k0 := bR.cell 0 _ rfl
        have k1' := bR.cell 1 _ rfl
        have k2' := bR.cell 2 _ rfl
        have k3' := bR.cell 3 _ rfl
        have k4' := bR.cell 4 _ rfl
        have t0 := bR.thaw 0
        have t1 := bR.thaw 1
        have t2 := bR.thaw 2
        have t3 := bR.thaw 3
        have t4 := bR.thaw 4
        have i0 := bC.cell 0 _ rfl
        have i1 := bC.cell 1 _ rfl
        have i2 := bC.cell 2 _ rfl
        have i3 := bC.cell 3 _ rfl
        have i4 := bC.cell 4 _ rfl
        clear bR bC
        go_wp2
        refine bodyPost_ret (v := .agg (C5.cs ⟨q.k, q.r, q.a, q.b, -1⟩)) (by simp [results, Tryd.results61, go_sem, *]) rfl ⟨⟨q.k, q.r, q.a, q.b, -1⟩, rfl, p3 + 1 + 1, by omega, ?_⟩
        have sF := SG.out
        have hsw : ∀ t ∈ ([(cb, 37, C5.cs ⟨q.k, q.r, q.a, q.b, -1⟩)] : List Blk3), t.1 ≠ w.heap.size := fun t ht => by simp at ht; rw [ht]; exact hcn
        have s1 := (((((sF.less (L' := [(w.heap.size, 37, #[.int .i64 0, .int .i64 0, .int .i64 0, .int .i64 0, .int .i64 0]), (cb, 37, C5.cs ⟨q.k, q.r, q.a, q.b, -1⟩)]) (fun t ht => by simp only [List.mem_cons, List.not_mem_nil, or_false] at ht ⊢; exact ht.symm)).put hsw 0 (.int .i64 (C5.k ⟨q.k, q.r, q.a, q.b, -1⟩))).put hsw 1 (.int .i64 (C5.r ⟨q.k, q.r, q.a, q.b, -1⟩))).put hsw 2 (.int .i64 (C5.a ⟨q.k, q.r, q.a, q.b, -1⟩))).put hsw 3 (.int .i64 (C5.b ⟨q.k, q.r, q.a, q.b, -1⟩))).put hsw 4 (.int .i64 (C5.n ⟨q.k, q.r, q.a, q.b, -1⟩))
        exact ⟨s1.2.1, s1.1.1⟩
      · have sG := (SF.out.less (L' := [(cb, 37, C5.cs q), (w.heap.size, 37, #[.int .i64 0, .int .i64 0, .int .i64 0, .int .i64 0, .int .i64 0])]) (fun t ht => List.mem_cons_of_mem _ ht)).put (fun t ht => by simp at ht; rw [ht]; exact hcn.symm) 4 (.int .i64 (100))
        rw [putCN] at sG
        obtain ⟨WG, hWG⟩ : ∃ WG, w5.setCell ⟨cb, 4, none⟩ (.int .i64 (100)) = WG := ⟨_, rfl⟩
        rw [hWG] at sG
        have SG := Lib.hid sG
        clear sG SF
        have bR := (SG.out.1.2 (w.heap.size, 37, #[.int .i64 0, .int .i64 0, .int .i64 0, .int .i64 0, .int .i64 0]) (by simp)).1
        have bC := (SG.out.1.2 (cb, 37, C5.cs ⟨q.k, q.r, q.a, q.b, 100⟩) (by simp)).1
        have k0 := bR.cell 0 _ rfl
        have k1' := bR.cell 1 _ rfl
        have k2' := bR.cell 2 _ rfl
        have k3' := bR.cell 3 _ rfl
        have k4' := bR.cell 4 _ rfl
        have t0 := bR.thaw 0
        have t1 := bR.thaw 1
        have t2 := bR.thaw 2
        have t3 := bR.thaw 3
        have t4 := bR.thaw 4
        have i0 := bC.cell 0 _ rfl
        have i1 := bC.cell 1 _ rfl
        have i2 := bC.cell 2 _ rfl
        have i3 := bC.cell 3 _ rfl
        have i4 := bC.cell 4 _ rfl
        clear bR bC
        go_wp2
        refine bodyPost_ret (v := .agg (C5.cs ⟨q.k, q.r, q.a, q.b, 100⟩)) (by simp [results, Tryd.results61, go_sem, *]) rfl ⟨⟨q.k, q.r, q.a, q.b, 100⟩, rfl, p3 + 1 + 1, by omega, ?_⟩
        have sF := SG.out
        have hsw : ∀ t ∈ ([(cb, 37, C5.cs ⟨q.k, q.r, q.a, q.b, 100⟩)] : List Blk3), t.1 ≠ w.heap.size := fun t ht => by simp at ht; rw [ht]; exact hcn
        have s1 := (((((sF.less (L' := [(w.heap.size, 37, #[.int .i64 0, .int .i64 0, .int .i64 0, .int .i64 0, .int .i64 0]), (cb, 37, C5.cs ⟨q.k, q.r, q.a, q.b, 100⟩)]) (fun t ht => by simp only [List.mem_cons, List.not_mem_nil, or_false] at ht ⊢; exact ht.symm)).put hsw 0 (.int .i64 (C5.k ⟨q.k, q.r, q.a, q.b, 100⟩))).put hsw 1 (.int .i64 (C5.r ⟨q.k, q.r, q.a, q.b, 100⟩))).put hsw 2 (.int .i64 (C5.a ⟨q.k, q.r, q.a, q.b, 100⟩))).put hsw 3 (.int .i64 (C5.b ⟨q.k, q.r, q.a, q.b, 100⟩))).put hsw 4 (.int .i64 (C5.n ⟨q.k, q.r, q.a, q.b, 100⟩))
        exact ⟨s1.2.1, s1.1.1⟩
    have h2' : (m == 2) = false := by simpa using h2
    have bR := (SD.out.1.2 (w.heap.size, 37, #[.int .i64 0, .int .i64 0, .int .i64 0, .int .i64 0, .int .i64 0]) (by simp)).1
    have bC := (SD.out.1.2 (cb, 37, C5.cs q) (by simp)).1
    have k0 := bR.cell 0 _ rfl
    have k1' := bR.cell 1 _ rfl
    have k2' := bR.cell 2 _ rfl
    have k3' := bR.cell 3 _ rfl
    have k4' := bR.cell 4 _ rfl
    have t0 := bR.thaw 0
    have t1 := bR.thaw 1
    have t2 := bR.thaw 2
    have t3 := bR.thaw 3
    have t4 := bR.thaw 4
    have i0 := bC.cell 0 _ rfl
    have i1 := bC.cell 1 _ rfl
    have i2 := bC.cell 2 _ rfl
    have i3 := bC.cell 3 _ rfl
    have i4 := bC.cell 4 _ rfl
    clear bR bC
    go_wp2
    refine bodyPost_ret (v := .agg (C5.cs q)) (by simp [results, Tryd.results61, go_sem, *]) rfl ⟨q, rfl, p3 + 1, by omega, ?_⟩
    have sF := SD.out
    have hsw : ∀ t ∈ ([(cb, 37, C5.cs q)] : List Blk3), t.1 ≠ w.heap.size := fun t ht => by simp at ht; rw [ht]; exact hcn
    have s1 := (((((sF.less (L' := [(w.heap.size, 37, #[.int .i64 0, .int .i64 0, .int .i64 0, .int .i64 0, .int .i64 0]), (cb, 37, C5.cs q)]) (fun t ht => by simp only [List.mem_cons, List.not_mem_nil, or_false] at ht ⊢; exact ht.symm)).put hsw 0 (.int .i64 (C5.k q))).put hsw 1 (.int .i64 (C5.r q))).put hsw 2 (.int .i64 (C5.a q))).put hsw 3 (.int .i64 (C5.b q))).put hsw 4 (.int .i64 (C5.n q))
    exact ⟨s1.2.1, s1.1.1⟩
end Go.Proofs.YtohfincnjhemfaaDoor
