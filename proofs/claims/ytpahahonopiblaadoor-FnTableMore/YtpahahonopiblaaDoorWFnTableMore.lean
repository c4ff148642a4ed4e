/-
  The walk of laws.FnTableMore.
-/
import Derived.Test.YtpahahonopiblaaDoorTxM
import Derived.Test.YtpahahonopiblaaDoorDrawTx
import Derived.Test.YtpahahonopiblaaDoorApT
import Derived.Test.YtpahahonopiblaaDoorThgN
import Derived.Deep.DeepCutAuto
import Derived.Deep.RegionHeld3
namespace Go.Proofs.YtpahahonopiblaaDoor
open Go.RowKit
set_option maxRecDepth 100000
set_option linter.unusedVariables false

theorem B_ne {l : List UInt8} (h : l ≠ []) : (B l).toList.isEmpty = false := by
  rw [Lib.toList_data]
  cases l with
  | nil => exact absurd rfl h
  | cons a l => rfl
theorem tabL_ne {l : List T8} (h : tabOk l = true) : tabL 0 l ≠ [] := by
  have := (tabOk_len h).1
  cases l with
  | nil => simp at this
  | cons x l => simp [tabL]
theorem bne_self (b : ByteArray) : (b.toList != b.toList) = false := by simp
theorem ldLab_any (n : Nat) (w : World) (hn : n ≤ maxLen) :
    Calls Tryd.prog 22 #[.int .i64 n] w fun e w' => e = .returned (lab ((n : Int) % 4) ((n : Int) / 4 % 4)) ∧ Below w.heap.size w w' := by
  unfold maxLen at hn
  go_enter Tryd.func22, Tryd.ntmps22
  go_wp2
  refine bodyPost_ret (v := lab ((n : Int) % 4) ((n : Int) / 4 % 4)) (by simp [results, Tryd.results22, go_sem]) rfl ⟨rfl, ?_⟩
  exact (Below.refl _ _).alloc (Nat.le_refl _) _
theorem okL_ld (n : Nat) : okL ((n : Int) % 4) ((n : Int) / 4 % 4) = true := by
  unfold okL
  rw [Bool.and_eq_true]
  constructor <;> (unfold okN; simp; omega)

theorem step_append_runG {P : Program} {ops : Array Oper} {o : Oper} {a : Act} {w : World} {K : Act → World → Prop} {Q : Exit → Act → World → Prop} {E : Prop} (hw : Region.wanted o (yielded ops a.tmps) = true) (s x : Operand) (t : TypeId)
    (ho : o.op = .call { callee := .builtin .append, args := #[s, x], argTypes := #[t, t] }) (vs vx : Value) (hs : a.eval s = vs) (hx : a.eval x = vx) (v' : Value) (w' : World)
    (hr : (Builtin.append_ #[t, t] o.type #[vs, vx]).run P w = .ok v' w') (h : K (a.put o.dst v') w') :
    if Region.wanted o (yielded ops a.tmps) = true then Oper.wp P o a w K Q else E := by
  rw [if_pos hw]
  unfold Oper.wp
  simp [execOp, ho, resolve, invoke, builtin, hs, hx, hr, Result.andThen]
  exact h
set_option maxHeartbeats 8000000 in
theorem walk_FnTableMore (a0 : Option Addr) (len0 cap0 : Nat) (z0 : List Int) (a1 : Option Addr) (len1 cap1 : Nat) (z1 : List Int) (w : World) (hKF : KF w) (hTP : TP w) (w0 : IsRow .u8 w a0 len0 cap0 z0) (w1 : IsRow .u8 w a1 len1 cap1 z1) :
    Calls Tryd.prog 5 #[.slice a0 len0 cap0, .slice a1 len1 cap1] w fun e w' => e = .returned (.bool true) ∧ Below w.heap.size w w' := by
  by_cases g0 : (1048576 : Int) < (len0 : Int)
  · go_enter Tryd.func5, Tryd.ntmps5
    go_wp2
    go_ret
    exact ⟨rfl, Below.refl _ _⟩
  by_cases g1 : (1048576 : Int) < (len1 : Int)
  · go_enter Tryd.func5, Tryd.ntmps5
    go_wp2
    go_ret
    exact ⟨rfl, Below.refl _ _⟩
  have W0 := Lib.hid w0
  have HF := Lib.hid hKF
  have HTP := Lib.hid hTP
  have HL1 := Lib.hid (show len1 ≤ maxLen by unfold maxLen; omega)
  clear w0 w1 hKF hTP
  go_enter Tryd.func5, Tryd.ntmps5
  go_wp2_with fail
  refine (drawTx_any a0 len0 cap0 z0 _ W0.out).mono ?_
  rintro e y0 ⟨g, c, l, rfl, hT, l3, l8, hzs, hb⟩
  have K0 := Lib.hid (Kn.start hb)
  have T0 := Lib.hid hT
  have HZ := Lib.hid hzs
  have hz : l.length ≤ 1048576 := by omega
  clear W0 hb hT hzs
  obtain ⟨sa, hsa⟩ : ∃ sa, textV l = sa := ⟨_, rfl⟩
  have HA := Lib.hid hsa
  clear hsa
  go_wp2_with fail
  refine (implTabText_val (s := ⟨some ⟨g, 0, none⟩, l.length, c⟩) HA.out _ T0.out (HF.out.stay K0.out.1) (HTP.out.stay K0.out.1) hz).mono ?_
  rintro e y2 ⟨rfl, hb⟩
  have K2 := Lib.hid (K0.out.stay hb)
  have T2 := Lib.hid (T0.out.stay hb)
  clear hb K0 T0
  have ee : (sa.toList == sa.toList) = true := toList_self sa
  have ne : (sa.toList != sa.toList) = false := bne_self sa
  go_wp2_with fail
  refine (specTabText_val (s := ⟨some ⟨g, 0, none⟩, l.length, c⟩) HA.out _ T2.out hz HZ.out).mono ?_
  rintro e y4 ⟨rfl, hb⟩
  have K4 := Lib.hid (K2.out.stay hb)
  have T4 := Lib.hid (T2.out.stay hb)
  clear hb K2 T2
  have fin : ∀ y : World, Kn w [] y → HasT y ⟨some ⟨g, 0, none⟩, l.length, c⟩ l → Calls Tryd.prog 14 #[.slice (some ⟨g, 0, none⟩) l.length c] y fun e y' => e = .returned (.string sa) ∧ Below w.heap.size w y' := fun y hk ht =>
    (specTabText_val (s := ⟨some ⟨g, 0, none⟩, l.length, c⟩) HA.out _ ht hz HZ.out).mono fun e y' h => ⟨h.1, (hk.stay h.2).1⟩
  have FIN := Lib.hid fin
  clear fin
  cases h1 : tabOk l
  · have e1 : sa.toList.isEmpty = true := by rw [← HA.out]; simp [textV, h1]
    clear h1
    go_wp2_with fail
    refine (FIN.out _ K4.out T4.out).mono ?_
    rintro e y9 ⟨rfl, hb⟩
    have HB := Lib.hid hb
    clear hb
    go_wp2
    go_ret
    exact ⟨rfl, HB.out⟩
  have hva : textV l = B (tabL 0 l) := by simp [textV, h1]
  have e1 : sa.toList.isEmpty = false := by rw [← HA.out, hva]; exact B_ne (tabL_ne h1)
  by_cases h8 : l.length = 8
  · have h8' : ((l.length : Int) == 8) = true := by simp [h8]
    clear h1 hva h8
    go_wp2_with fail
    refine (FIN.out _ K4.out T4.out).mono ?_
    rintro e y9 ⟨rfl, hb⟩
    have HB := Lib.hid hb
    clear hb
    go_wp2
    go_ret
    exact ⟨rfl, HB.out⟩
  have h8' : ((l.length : Int) == 8) = false := by simp; omega
  have H1 := Lib.hid h1
  have HVA := Lib.hid (HA.out.symm.trans hva)
  clear FIN h1 hva HA
  obtain ⟨sl, hsl⟩ : ∃ sl : Int, (len1 : Int) % 4 = sl := ⟨_, rfl⟩
  obtain ⟨vl, hvl⟩ : ∃ vl : Int, (len1 : Int) / 4 % 4 = vl := ⟨_, rfl⟩
  have HLV := okL_ld len1
  rw [hsl, hvl] at HLV
  have HS1 := Lib.hid hsl
  have HS2 := Lib.hid hvl
  have HLVV := Lib.hid HLV
  clear hsl hvl HLV HVA
  go_wp2
  go_loopw [7] (fun i wr => ∃ k : Nat, 1 ≤ k ∧ k ≤ 5 ∧ i = .int .i64 k ∧ Kn w [] wr ∧ HasT wr ⟨some ⟨g, 0, none⟩, l.length, c⟩ l) (fun i _ => 5 - (intOf i).toNat)
  case atStart => exact ⟨1, by omega, by omega, rfl, K4.out, T4.out⟩
  case round =>
    clear K4 T4
    obtain ⟨k, hk1, hk, rfl, Kr, Tr9⟩ := hrel
    have KR := Lib.hid Kr
    have TR := Lib.hid Tr9
    clear Kr Tr9
    by_cases hlt : k ≤ 4
    · have hlt' : (k : Int) ≤ 4 := by omega
      have step : True := trivial
      · obtain ⟨hx, hlm⟩ := tab_more_plain (kind := (k : Int)) H1.out (by omega) HLVV.out (by omega)
        have HX := Lib.hid hx
        have HLM := Lib.hid hlm
        have hmz : (l ++ [newT (k : Int) sl vl 0]).length ≤ 1048576 := by simp; omega
        clear hx hlm step
        go_wp2_with fail
        refine (ldLab_any len1 _ HL1.out).mono ?_
        rintro e y5 ⟨rfl, hb⟩
        have K5 := Lib.hid (KR.out.stay hb)
        have T5 := Lib.hid (TR.out.stay hb)
        clear hb KR TR
        rw [HS1.out, HS2.out]
        go_wp2_with fail
        refine (implTNew_any (k : Int) sl vl 0 _ (HF.out.stay K5.out.1)).mono ?_
        rintro e y6 ⟨h6, hb⟩
        obtain ⟨nt, hnt⟩ : ∃ nt, newT (k : Int) sl vl 0 = nt := ⟨_, rfl⟩
        rw [hnt] at h6 HX HLM hmz
        rcases h6 with ⟨h6, -⟩ | ⟨-, ss, q, rfl, hR, hQ, -, -⟩
        · rw [HX.out] at h6; cases h6
        have K6 := Lib.hid (K5.out.stay hb)
        have T6 := Lib.hid (T5.out.stay hb)
        clear hb K5 T5 hnt
        obtain ⟨Y7, hY7⟩ : ∃ Y7, y6.alloc (.cells (nt.cs ss q) 37) = Y7 := ⟨_, rfl⟩
        have hb7 : Below y6.heap.size y6 Y7 := hY7 ▸ (Below.refl _ _).alloc (Nat.le_refl _) _
        have bn7 : Box Y7 y6.heap.size 37 (nt.cs ss q) := hY7 ▸ Box.fresh _ _ _
        go_wp2_with fail
        obtain ⟨V, hV⟩ : ∃ V, Y7.drew = V := ⟨_, rfl⟩
        have hbV : Below y6.heap.size y6 V := hV ▸ hb7.drew
        have KV := Lib.hid (K6.out.stay hbV)
        have TV := T6.out.stay hbV
        have HTV := Lib.hid TV
        have HFV := Lib.hid (HF.out.stay KV.out.1)
        have bnV : Box V y6.heap.size 37 (nt.cs ss q) := hV ▸ bn7.drew
        have htH : ThH V (nt, ss, q) := ⟨hR.stay hbV, hQ.stay hbV⟩
        obtain ⟨s1, W1, s2, W2, r1, r2, bW1, P1⟩ := ord1 V ⟨some ⟨g, 0, none⟩, l.length, c⟩ l TV (by omega) (nt, ss, q) htH 25 25
        obtain ⟨s3, W3, s4, W4, r3, r4, bW3, P2⟩ := ord2 V ⟨some ⟨g, 0, none⟩, l.length, c⟩ l TV (by omega) (nt, ss, q) htH 25 25
        obtain ⟨s5, W5, s6, W6, r5, r6, bW5, P3⟩ := ord3 V ⟨some ⟨g, 0, none⟩, l.length, c⟩ l TV (by omega) (nt, ss, q) htH 25 25
        have hB0 : Below V.heap.size V V := Below.refl _ _
        have hB1 : Below V.heap.size V (V.alloc (.cells #[] 37)) := hB0.alloc (Nat.le_refl _) _
        have hB2 : Below V.heap.size V ((V.alloc (.cells #[] 37)).alloc (.cells (nt.cs ss q) 37)) := hB1.alloc (by simp) _
        have hB3 : Below V.heap.size V (V.alloc (.cells (nt.cs ss q) 37)) := hB0.alloc (Nat.le_refl _) _
        have hB4 : Below V.heap.size V ((V.alloc (.cells (nt.cs ss q) 37)).alloc (.cells #[] 37)) := hB3.alloc (by simp) _
        have hB5 : Below V.heap.size V (W1.alloc (.cells (nt.cs ss q) 37)) := bW1.alloc bW1.size _
        have hB6 : Below V.heap.size V W2 := P1.2
        have hB7 : Below V.heap.size V W4 := P2.2
        have hB8 : Below V.heap.size V W6 := P3.2
        have FX := Lib.hid (show ∀ y, Below V.heap.size V y → Below V.heap.size V y ∧ y.cell? ⟨y6.heap.size, 0, none⟩ = some (.int .i64 nt.kind) ∧ y.cell? ⟨y6.heap.size, 1, none⟩ = some (.int .i64 nt.sec) ∧ y.cell? ⟨y6.heap.size, 2, none⟩ = some (.int .i64 nt.vou) ∧ y.cell? ⟨y6.heap.size, 3, none⟩ = some (.int .i64 nt.vers) ∧ y.cell? ⟨y6.heap.size, 4, none⟩ = some (.int .i64 nt.num) ∧ y.cell? ⟨y6.heap.size, 5, none⟩ = some (.slice ss.a ss.n ss.c) ∧ y.cell? ⟨y6.heap.size, 6, none⟩ = some (.slice q.a q.n q.c) ∧ y.cell? ⟨y6.heap.size, 7, none⟩ = some (.int .i64 nt.to) from fun y hb => ⟨hb, (bnV.stay hb).cell 0 _ rfl, (bnV.stay hb).cell 1 _ rfl, (bnV.stay hb).cell 2 _ rfl, (bnV.stay hb).cell 3 _ rfl, (bnV.stay hb).cell 4 _ rfl, (bnV.stay hb).cell 5 _ rfl, (bnV.stay hb).cell 6 _ rfl, (bnV.stay hb).cell 7 _ rfl⟩)
        have A1 := Lib.hid (show HasT W2 s2 (l ++ [nt]) from P1.1)
        have A2 := Lib.hid (show HasT W4 s4 (l ++ [nt]) from P2.1)
        have A3 := Lib.hid (show HasT W6 s6 (l ++ [nt]) from P3.1)
        have RR1 := Lib.hid r1
        have RR2 := Lib.hid r2
        have RR3 := Lib.hid r3
        have RR4 := Lib.hid r4
        have RR5 := Lib.hid r5
        have RR6 := Lib.hid r6
        clear P1 P2 P3 r1 r2 r3 r4 r5 r6 TV htH hbV hb7 bn7 bnV hR hQ hY7 K6 T6
        go_cut [65] (fun v wx => v = .bool false ∧ Below V.heap.size V wx)
        case first =>
          subst hV
          have hC1 : Below Y7.drew.heap.size Y7.drew (Y7.alloc (.cells #[] 37)).drew := hB1
          have hC2 : Below Y7.drew.heap.size Y7.drew ((Y7.alloc (.cells #[] 37)).alloc (.cells (nt.cs ss q) 37)).drew := hB2
          have hC3 : Below Y7.drew.heap.size Y7.drew (Y7.alloc (.cells (nt.cs ss q) 37)).drew := hB3
          have hC4 : Below Y7.drew.heap.size Y7.drew ((Y7.alloc (.cells (nt.cs ss q) 37)).alloc (.cells #[] 37)).drew := hB4
          clear hB1 hB2 hB3 hB4
          go_region_held3 (fun y => Below Y7.drew.heap.size Y7.drew y ∧ y.cell? ⟨y6.heap.size, 0, none⟩ = some (.int .i64 nt.kind) ∧ y.cell? ⟨y6.heap.size, 1, none⟩ = some (.int .i64 nt.sec) ∧ y.cell? ⟨y6.heap.size, 2, none⟩ = some (.int .i64 nt.vou) ∧ y.cell? ⟨y6.heap.size, 3, none⟩ = some (.int .i64 nt.vers) ∧ y.cell? ⟨y6.heap.size, 4, none⟩ = some (.int .i64 nt.num) ∧ y.cell? ⟨y6.heap.size, 5, none⟩ = some (.slice ss.a ss.n ss.c) ∧ y.cell? ⟨y6.heap.size, 6, none⟩ = some (.slice q.a q.n q.c) ∧ y.cell? ⟨y6.heap.size, 7, none⟩ = some (.int .i64 nt.to))
            (first | with_reducible exact FX.out _ hB0 | with_reducible exact FX.out _ hC1 | with_reducible exact FX.out _ hC2 | with_reducible exact FX.out _ hC3 | with_reducible exact FX.out _ hC4 | with_reducible exact FX.out _ hB5 | with_reducible exact FX.out _ bW1 | with_reducible exact FX.out _ bW3 | with_reducible exact FX.out _ bW5 | with_reducible exact FX.out _ hB6 | with_reducible exact FX.out _ hB7 | with_reducible exact FX.out _ hB8 | with_reducible exact FX.out _ hBy)
            (first
      | (refine step_append_runG (by rfl) (.tmp 57) (.tmp 58) 25 rfl (.slice (some ⟨Y7.drew.heap.size, 0, none⟩) 0 0) (.slice (some ⟨g, 0, none⟩) l.length c) (by simp [Act.eval]) (by simp [Act.eval]) (.slice s1.a s1.n s1.c) W1 RR1.out ?_)
      | (refine step_append_runG (by rfl) (.tmp 57) (.tmp 58) 25 rfl (.slice (some ⟨Y7.drew.heap.size, 0, none⟩) 0 0) (.slice (some ⟨g, 0, none⟩) l.length c) (by simp [Act.eval]) (by simp [Act.eval]) (.slice s3.a s3.n s3.c) W3 RR3.out ?_)
      | (refine step_append_runG (by rfl) (.tmp 57) (.tmp 58) 25 rfl (.slice (some ⟨Y7.drew.heap.size + 1, 0, none⟩) 0 0) (.slice (some ⟨g, 0, none⟩) l.length c) (by simp [Act.eval]) (by simp [Act.eval]) (.slice s5.a s5.n s5.c) W5 RR5.out ?_)
      | (refine step_append_runG (by rfl) (.tmp 59) (.tmp 61) 25 rfl (.slice s1.a s1.n s1.c) (.slice (some ⟨W1.heap.size, 0, none⟩) 1 1) (by simp [Act.eval]) (by simp [Act.eval]) (.slice s2.a s2.n s2.c) W2 RR2.out ?_)
      | (refine step_append_runG (by rfl) (.tmp 59) (.tmp 61) 25 rfl (.slice s3.a s3.n s3.c) (.slice (some ⟨Y7.drew.heap.size + 1, 0, none⟩) 1 1) (by simp [Act.eval]) (by simp [Act.eval]) (.slice s4.a s4.n s4.c) W4 RR4.out ?_)
      | (refine step_append_runG (by rfl) (.tmp 59) (.tmp 61) 25 rfl (.slice s5.a s5.n s5.c) (.slice (some ⟨Y7.drew.heap.size, 0, none⟩) 1 1) (by simp [Act.eval]) (by simp [Act.eval]) (.slice s6.a s6.n s6.c) W6 RR6.out ?_)
      | (go_at_call 23; refine (implTabOk_val HLM.out _ (by first | with_reducible exact A1.out | with_reducible exact A2.out | with_reducible exact A3.out) (HFV.out.stay (by first | with_reducible exact hB6 | with_reducible exact hB7 | with_reducible exact hB8)) hmz).mono ?_; rintro e y ⟨rfl, hb⟩; first | (have hBy := hB6.trans (hb.mono hB6.size); clear hb) | (have hBy := hB7.trans (hb.mono hB7.size); clear hb) | (have hBy := hB8.trans (hb.mono hB8.size); clear hb)))
          all_goals
            go_wp2_with fail
            go_meet
            exact ⟨rfl, hBy⟩
        case rest =>
          obtain ⟨rfl, hbc⟩ := hcut
          have KC := Lib.hid (KV.out.stay hbc)
          have TC := Lib.hid (HTV.out.stay hbc)
          clear hbc A1 A2 A3 RR1 RR2 RR3 RR4 RR5 RR6 FX hB0 hB1 hB2 hB3 hB4 hB5 hB6 hB7 hB8 bW1 bW3 bW5 KV HTV HFV hV
          go_wp2
          go_roundw
          case rel => exact ⟨k + 1, by omega, by omega, by go_num, KC.out, TC.out⟩
          case measure => simp [intOf]; omega
    · have hlt' : ¬ (k : Int) ≤ 4 := by omega
      clear hlt hk hk1
      go_wp2
      clear hlt'
      go_loopw [10] (fun i wr => ∃ k : Nat, 1 ≤ k ∧ k ≤ l.length + 1 ∧ i = .int .i64 k ∧ Kn w [] wr ∧ HasT wr ⟨some ⟨g, 0, none⟩, l.length, c⟩ l) (fun i _ => l.length + 1 - (intOf i).toNat)
      case atStart => exact ⟨1, by omega, by omega, rfl, KR.out, TR.out⟩
      case round =>
      clear KR TR
      obtain ⟨k, hk1, hk, rfl, Kr, Tr9⟩ := hrel
      have KR := Lib.hid Kr
      have TR := Lib.hid Tr9
      clear Kr Tr9
      by_cases hlt : k ≤ l.length
      · have hlt' : (k : Int) ≤ (l.length : Int) := by omega
        obtain ⟨jt, hjk⟩ : ∃ jt : Nat, k = jt + 1 := ⟨k - 1, by omega⟩
        have hjt : jt < l.length := by omega
        have hjt' : (jt : Int) < (l.length : Int) := by omega
        have wj1 : wrap64 ((k : Int) - 1) = (jt : Int) := by unfold wrap64; omega
        have wj2 : IntKind.i64.wrap ((k : Int) - 1) = (jt : Int) := by rw [show (k : Int) - 1 = (jt : Int) by omega]; exact IntWalk.i64_in _ (by omega)
        have wj3 : IntKind.i64.wrap (jt : Int) = (jt : Int) := IntWalk.i64_in _ (by omega)
        obtain ⟨hx, hlm⟩ := tab_more_gate H1.out (by omega) HLVV.out hjt
        rw [show (jt : Int) + 1 = (k : Int) by omega] at hx hlm
        obtain ⟨kt, hkt⟩ : ∃ kt, l[jt].kind = kt := ⟨_, rfl⟩
        rw [hkt] at hlm
        have HKT := Lib.hid hkt
        have HX := Lib.hid hx
        have HLM := Lib.hid hlm
        have hmz : (l ++ [newT 5 sl vl (k : Int)]).length ≤ 1048576 := by simp; omega
        have bnn : ((kt == 1) != (kt == 1)) = false := by simp
        clear hx hlm hkt hjk
        go_wp2_with fail
        refine (ldLab_any len1 _ HL1.out).mono ?_
        rintro e y5 ⟨rfl, hb⟩
        have K5 := Lib.hid (KR.out.stay hb)
        have T5 := Lib.hid (TR.out.stay hb)
        clear hb KR TR
        rw [HS1.out, HS2.out]
        go_wp2_with fail
        refine (implTNew_any 5 sl vl (k : Int) _ (HF.out.stay K5.out.1)).mono ?_
        rintro e y6 ⟨h6, hb⟩
        obtain ⟨nt, hnt⟩ : ∃ nt, newT 5 sl vl (k : Int) = nt := ⟨_, rfl⟩
        rw [hnt] at h6 HX HLM hmz
        rcases h6 with ⟨h6, -⟩ | ⟨-, ss, q, rfl, hR, hQ, -, -⟩
        · rw [HX.out] at h6; cases h6
        have K6 := Lib.hid (K5.out.stay hb)
        have T6 := Lib.hid (T5.out.stay hb)
        clear hb K5 T5 hnt
        obtain ⟨Y7, hY7⟩ : ∃ Y7, y6.alloc (.cells (nt.cs ss q) 37) = Y7 := ⟨_, rfl⟩
        have hb7 : Below y6.heap.size y6 Y7 := hY7 ▸ (Below.refl _ _).alloc (Nat.le_refl _) _
        have bn7 : Box Y7 y6.heap.size 37 (nt.cs ss q) := hY7 ▸ Box.fresh _ _ _
        go_wp2_with fail
        obtain ⟨V, hV⟩ : ∃ V, Y7.drew = V := ⟨_, rfl⟩
        have hbV : Below y6.heap.size y6 V := hV ▸ hb7.drew
        have KV := Lib.hid (K6.out.stay hbV)
        have TV := T6.out.stay hbV
        have HTV := Lib.hid TV
        have HFV := Lib.hid (HF.out.stay KV.out.1)
        have bnV : Box V y6.heap.size 37 (nt.cs ss q) := hV ▸ bn7.drew
        have htH : ThH V (nt, ss, q) := ⟨hR.stay hbV, hQ.stay hbV⟩
        obtain ⟨s1, W1, s2, W2, r1, r2, bW1, P1⟩ := ord1 V ⟨some ⟨g, 0, none⟩, l.length, c⟩ l TV (by omega) (nt, ss, q) htH 25 25
        obtain ⟨s3, W3, s4, W4, r3, r4, bW3, P2⟩ := ord2 V ⟨some ⟨g, 0, none⟩, l.length, c⟩ l TV (by omega) (nt, ss, q) htH 25 25
        obtain ⟨s5, W5, s6, W6, r5, r6, bW5, P3⟩ := ord3 V ⟨some ⟨g, 0, none⟩, l.length, c⟩ l TV (by omega) (nt, ss, q) htH 25 25
        have hB0 : Below V.heap.size V V := Below.refl _ _
        have hB1 : Below V.heap.size V (V.alloc (.cells #[] 37)) := hB0.alloc (Nat.le_refl _) _
        have hB2 : Below V.heap.size V ((V.alloc (.cells #[] 37)).alloc (.cells (nt.cs ss q) 37)) := hB1.alloc (by simp) _
        have hB3 : Below V.heap.size V (V.alloc (.cells (nt.cs ss q) 37)) := hB0.alloc (Nat.le_refl _) _
        have hB4 : Below V.heap.size V ((V.alloc (.cells (nt.cs ss q) 37)).alloc (.cells #[] 37)) := hB3.alloc (by simp) _
        have hB5 : Below V.heap.size V (W1.alloc (.cells (nt.cs ss q) 37)) := bW1.alloc bW1.size _
        have hB6 : Below V.heap.size V W2 := P1.2
        have hB7 : Below V.heap.size V W4 := P2.2
        have hB8 : Below V.heap.size V W6 := P3.2
        have dk : V.cell? ⟨g, jt * 8, none⟩ = some (.int .i64 kt) := by
          obtain ⟨b', o', e, hTb⟩ := TV.ne2 hjt
          simp only [Option.some.injEq, Addr.mk.injEq] at e
          obtain ⟨rfl, rfl, -⟩ := e
          obtain ⟨_, _, -, -, hA⟩ := hTb jt hjt
          have : V.cell? ⟨g, 0 + jt * 8 + 0, none⟩ = some (.int .i64 l[jt].kind) := hA 0 _ rfl
          rw [HKT.out] at this
          simpa using this
        have FX := Lib.hid (show ∀ y, Below V.heap.size V y → Below V.heap.size V y ∧ y.cell? ⟨y6.heap.size, 0, none⟩ = some (.int .i64 nt.kind) ∧ y.cell? ⟨y6.heap.size, 1, none⟩ = some (.int .i64 nt.sec) ∧ y.cell? ⟨y6.heap.size, 2, none⟩ = some (.int .i64 nt.vou) ∧ y.cell? ⟨y6.heap.size, 3, none⟩ = some (.int .i64 nt.vers) ∧ y.cell? ⟨y6.heap.size, 4, none⟩ = some (.int .i64 nt.num) ∧ y.cell? ⟨y6.heap.size, 5, none⟩ = some (.slice ss.a ss.n ss.c) ∧ y.cell? ⟨y6.heap.size, 6, none⟩ = some (.slice q.a q.n q.c) ∧ y.cell? ⟨y6.heap.size, 7, none⟩ = some (.int .i64 nt.to) ∧ y.cell? ⟨g, jt * 8, none⟩ = some (.int .i64 kt) from fun y hb => ⟨hb, (bnV.stay hb).cell 0 _ rfl, (bnV.stay hb).cell 1 _ rfl, (bnV.stay hb).cell 2 _ rfl, (bnV.stay hb).cell 3 _ rfl, (bnV.stay hb).cell 4 _ rfl, (bnV.stay hb).cell 5 _ rfl, (bnV.stay hb).cell 6 _ rfl, (bnV.stay hb).cell 7 _ rfl, stayCell dk hb⟩)
        have A1 := Lib.hid (show HasT W2 s2 (l ++ [nt]) from P1.1)
        have A2 := Lib.hid (show HasT W4 s4 (l ++ [nt]) from P2.1)
        have A3 := Lib.hid (show HasT W6 s6 (l ++ [nt]) from P3.1)
        have RR1 := Lib.hid r1
        have RR2 := Lib.hid r2
        have RR3 := Lib.hid r3
        have RR4 := Lib.hid r4
        have RR5 := Lib.hid r5
        have RR6 := Lib.hid r6
        clear P1 P2 P3 r1 r2 r3 r4 r5 r6 TV htH hbV hb7 bn7 bnV hR hQ hY7 K6 T6 dk
        go_cut [98] (fun v wx => v = .bool false ∧ Below V.heap.size V wx)
        case first =>
          subst hV
          have hC1 : Below Y7.drew.heap.size Y7.drew (Y7.alloc (.cells #[] 37)).drew := hB1
          have hC2 : Below Y7.drew.heap.size Y7.drew ((Y7.alloc (.cells #[] 37)).alloc (.cells (nt.cs ss q) 37)).drew := hB2
          have hC3 : Below Y7.drew.heap.size Y7.drew (Y7.alloc (.cells (nt.cs ss q) 37)).drew := hB3
          have hC4 : Below Y7.drew.heap.size Y7.drew ((Y7.alloc (.cells (nt.cs ss q) 37)).alloc (.cells #[] 37)).drew := hB4
          clear hB1 hB2 hB3 hB4
          go_region_held3 (fun y => Below Y7.drew.heap.size Y7.drew y ∧ y.cell? ⟨y6.heap.size, 0, none⟩ = some (.int .i64 nt.kind) ∧ y.cell? ⟨y6.heap.size, 1, none⟩ = some (.int .i64 nt.sec) ∧ y.cell? ⟨y6.heap.size, 2, none⟩ = some (.int .i64 nt.vou) ∧ y.cell? ⟨y6.heap.size, 3, none⟩ = some (.int .i64 nt.vers) ∧ y.cell? ⟨y6.heap.size, 4, none⟩ = some (.int .i64 nt.num) ∧ y.cell? ⟨y6.heap.size, 5, none⟩ = some (.slice ss.a ss.n ss.c) ∧ y.cell? ⟨y6.heap.size, 6, none⟩ = some (.slice q.a q.n q.c) ∧ y.cell? ⟨y6.heap.size, 7, none⟩ = some (.int .i64 nt.to) ∧ y.cell? ⟨g, jt * 8, none⟩ = some (.int .i64 kt))
            (first | with_reducible exact FX.out _ hB0 | with_reducible exact FX.out _ hC1 | with_reducible exact FX.out _ hC2 | with_reducible exact FX.out _ hC3 | with_reducible exact FX.out _ hC4 | with_reducible exact FX.out _ hB5 | with_reducible exact FX.out _ bW1 | with_reducible exact FX.out _ bW3 | with_reducible exact FX.out _ bW5 | with_reducible exact FX.out _ hB6 | with_reducible exact FX.out _ hB7 | with_reducible exact FX.out _ hB8 | with_reducible exact FX.out _ hBy)
            (first
      | (refine step_append_runG (by rfl) (.tmp 83) (.tmp 84) 25 rfl (.slice (some ⟨Y7.drew.heap.size, 0, none⟩) 0 0) (.slice (some ⟨g, 0, none⟩) l.length c) (by simp [Act.eval]) (by simp [Act.eval]) (.slice s1.a s1.n s1.c) W1 RR1.out ?_)
      | (refine step_append_runG (by rfl) (.tmp 83) (.tmp 84) 25 rfl (.slice (some ⟨Y7.drew.heap.size, 0, none⟩) 0 0) (.slice (some ⟨g, 0, none⟩) l.length c) (by simp [Act.eval]) (by simp [Act.eval]) (.slice s3.a s3.n s3.c) W3 RR3.out ?_)
      | (refine step_append_runG (by rfl) (.tmp 83) (.tmp 84) 25 rfl (.slice (some ⟨Y7.drew.heap.size + 1, 0, none⟩) 0 0) (.slice (some ⟨g, 0, none⟩) l.length c) (by simp [Act.eval]) (by simp [Act.eval]) (.slice s5.a s5.n s5.c) W5 RR5.out ?_)
      | (refine step_append_runG (by rfl) (.tmp 85) (.tmp 87) 25 rfl (.slice s1.a s1.n s1.c) (.slice (some ⟨W1.heap.size, 0, none⟩) 1 1) (by simp [Act.eval]) (by simp [Act.eval]) (.slice s2.a s2.n s2.c) W2 RR2.out ?_)
      | (refine step_append_runG (by rfl) (.tmp 85) (.tmp 87) 25 rfl (.slice s3.a s3.n s3.c) (.slice (some ⟨Y7.drew.heap.size + 1, 0, none⟩) 1 1) (by simp [Act.eval]) (by simp [Act.eval]) (.slice s4.a s4.n s4.c) W4 RR4.out ?_)
      | (refine step_append_runG (by rfl) (.tmp 85) (.tmp 87) 25 rfl (.slice s5.a s5.n s5.c) (.slice (some ⟨Y7.drew.heap.size, 0, none⟩) 1 1) (by simp [Act.eval]) (by simp [Act.eval]) (.slice s6.a s6.n s6.c) W6 RR6.out ?_)
      | (go_at_call 23; refine (implTabOk_val HLM.out _ (by first | with_reducible exact A1.out | with_reducible exact A2.out | with_reducible exact A3.out) (HFV.out.stay (by first | with_reducible exact hB6 | with_reducible exact hB7 | with_reducible exact hB8)) hmz).mono ?_; rintro e y ⟨rfl, hb⟩; first | (have hBy := hB6.trans (hb.mono hB6.size); clear hb) | (have hBy := hB7.trans (hb.mono hB7.size); clear hb) | (have hBy := hB8.trans (hb.mono hB8.size); clear hb)))
          all_goals
            go_wp2_with fail
            go_meet
            exact ⟨by cases hk9 : (kt == 1) <;> simp_all, hBy⟩
        case rest =>
          obtain ⟨rfl, hbc⟩ := hcut
          have KC := Lib.hid (KV.out.stay hbc)
          have TC := Lib.hid (HTV.out.stay hbc)
          clear hbc A1 A2 A3 RR1 RR2 RR3 RR4 RR5 RR6 FX hB0 hB1 hB2 hB3 hB4 hB5 hB6 hB7 hB8 bW1 bW3 bW5 KV HTV HFV hV
          go_wp2
          go_roundw
          case rel => exact ⟨k + 1, by omega, by omega, by go_num, KC.out, TC.out⟩
          case measure => simp [intOf]; omega
      · have hlt' : ¬ (k : Int) ≤ (l.length : Int) := by omega
        go_wp2
        go_ret
        exact ⟨rfl, KR.out.1⟩
end Go.Proofs.YtpahahonopiblaaDoor
