/-
  The walk of laws.FnNewApart.
-/
import Derived.Test.YtpahahonopiblaaDoorTxM
import Derived.Test.YtpahahonopiblaaDoorDrawTx
import Derived.Test.YtpahahonopiblaaDoorApT
import Derived.Test.YtpahahonopiblaaDoorThgN
import Derived.Deep.DeepCutAuto
namespace Go.Proofs.YtpahahonopiblaaDoor
open Go.RowKit
set_option maxRecDepth 100000
set_option linter.unusedVariables false

theorem B_ne {l : List UInt8} (h : l ≠ []) : (B l).toList.isEmpty = false := by
  rw [Lib.toList_data]
  cases l with
  | nil => exact absurd rfl h
  | cons a l => rfl
theorem tabL_ne {l : List T8} (h : tabOk l = true) : tabL 0 l ≠ [] := by
  have := (tabOk_len h).1
  cases l with
  | nil => simp at this
  | cons x l => simp [tabL]
theorem bne_self (b : ByteArray) : (b.toList != b.toList) = false := by simp
theorem ldLab_any (n : Nat) (w : World) (hn : n ≤ maxLen) :
    Calls Tryd.prog 22 #[.int .i64 n] w fun e w' => e = .returned (lab ((n : Int) % 4) ((n : Int) / 4 % 4)) ∧ Below w.heap.size w w' := by
  unfold maxLen at hn
  go_enter Tryd.func22, Tryd.ntmps22
  go_wp2
  refine bodyPost_ret (v := lab ((n : Int) % 4) ((n : Int) / 4 % 4)) (by simp [results, Tryd.results22, go_sem]) rfl ⟨rfl, ?_⟩
  exact (Below.refl _ _).alloc (Nat.le_refl _) _
theorem ext_app (a b : ByteArray) : (a ++ b).extract 0 a.size = a := ByteArray.extract_append_eq_left rfl
theorem okL_ld (n : Nat) : okL ((n : Int) % 4) ((n : Int) / 4 % 4) = true := by
  unfold okL
  rw [Bool.and_eq_true]
  constructor <;> (unfold okN; simp; omega)

set_option maxHeartbeats 8000000 in
theorem walk_FnNewApart (a0 : Option Addr) (len0 cap0 : Nat) (z0 : List Int) (a1 : Option Addr) (len1 cap1 : Nat) (z1 : List Int) (w : World) (hKF : KF w) (hTP : TP w) (w0 : IsRow .u8 w a0 len0 cap0 z0) (w1 : IsRow .u8 w a1 len1 cap1 z1) :
    Calls Tryd.prog 6 #[.slice a0 len0 cap0, .slice a1 len1 cap1] w fun e w' => e = .returned (.bool true) ∧ Below w.heap.size w w' := by
  by_cases g0 : (1048576 : Int) < (len0 : Int)
  · go_enter Tryd.func6, Tryd.ntmps6
    go_wp2
    go_ret
    exact ⟨rfl, Below.refl _ _⟩
  by_cases g1 : (1048576 : Int) < (len1 : Int)
  · go_enter Tryd.func6, Tryd.ntmps6
    go_wp2
    go_ret
    exact ⟨rfl, Below.refl _ _⟩
  have W0 := Lib.hid w0
  have HF := Lib.hid hKF
  have HTP := Lib.hid hTP
  have HL1 := Lib.hid (show len1 ≤ maxLen by unfold maxLen; omega)
  clear w0 w1 hKF hTP
  go_enter Tryd.func6, Tryd.ntmps6
  go_wp2_with fail
  refine (drawTx_any a0 len0 cap0 z0 _ W0.out).mono ?_
  rintro e y0 ⟨g, c, l, rfl, hT, l3, l8, hzs, hb⟩
  have K0 := Lib.hid (Kn.start hb)
  have T0 := Lib.hid hT
  have HZ := Lib.hid hzs
  have hz : l.length ≤ 1048576 := by omega
  clear W0 hb hT hzs
  obtain ⟨sa, hsa⟩ : ∃ sa, textV l = sa := ⟨_, rfl⟩
  have HA := Lib.hid hsa
  clear hsa
  go_wp2_with fail
  refine (implTabText_val (s := ⟨some ⟨g, 0, none⟩, l.length, c⟩) HA.out _ T0.out (HF.out.stay K0.out.1) (HTP.out.stay K0.out.1) hz).mono ?_
  rintro e y2 ⟨rfl, hb⟩
  have K2 := Lib.hid (K0.out.stay hb)
  have T2 := Lib.hid (T0.out.stay hb)
  clear hb K0 T0
  have ee : (sa.toList == sa.toList) = true := toList_self sa
  have ne : (sa.toList != sa.toList) = false := bne_self sa
  go_wp2_with fail
  refine (specTabText_val (s := ⟨some ⟨g, 0, none⟩, l.length, c⟩) HA.out _ T2.out hz HZ.out).mono ?_
  rintro e y4 ⟨rfl, hb⟩
  have K4 := Lib.hid (K2.out.stay hb)
  have T4 := Lib.hid (T2.out.stay hb)
  clear hb K2 T2
  have fin : ∀ y : World, Kn w [] y → HasT y ⟨some ⟨g, 0, none⟩, l.length, c⟩ l → Calls Tryd.prog 14 #[.slice (some ⟨g, 0, none⟩) l.length c] y fun e y' => e = .returned (.string sa) ∧ Below w.heap.size w y' := fun y hk ht =>
    (specTabText_val (s := ⟨some ⟨g, 0, none⟩, l.length, c⟩) HA.out _ ht hz HZ.out).mono fun e y' h => ⟨h.1, (hk.stay h.2).1⟩
  have FIN := Lib.hid fin
  clear fin
  cases h1 : tabOk l
  · have e1 : sa.toList.isEmpty = true := by rw [← HA.out]; simp [textV, h1]
    clear h1
    go_wp2_with fail
    refine (FIN.out _ K4.out T4.out).mono ?_
    rintro e y9 ⟨rfl, hb⟩
    have HB := Lib.hid hb
    clear hb
    go_wp2
    go_ret
    exact ⟨rfl, HB.out⟩
  have hva : textV l = B (tabL 0 l) := by simp [textV, h1]
  have e1 : sa.toList.isEmpty = false := by rw [← HA.out, hva]; exact B_ne (tabL_ne h1)
  by_cases h8 : l.length = 8
  · have h8' : ((l.length : Int) == 8) = true := by simp [h8]
    clear h1 hva h8
    go_wp2_with fail
    refine (FIN.out _ K4.out T4.out).mono ?_
    rintro e y9 ⟨rfl, hb⟩
    have HB := Lib.hid hb
    clear hb
    go_wp2
    go_ret
    exact ⟨rfl, HB.out⟩
  have h8' : ((l.length : Int) == 8) = false := by simp; omega
  have H1 := Lib.hid h1
  have HVA := Lib.hid (HA.out.symm.trans hva)
  clear FIN h1 hva HA
  go_wp2_with fail
  refine (ldLab_any len1 _ HL1.out).mono ?_
  rintro e y5 ⟨rfl, hb⟩
  have K5 := Lib.hid (K4.out.stay hb)
  have T5 := Lib.hid (T4.out.stay hb)
  clear hb K4 T4
  obtain ⟨sl, hsl⟩ : ∃ sl : Int, (len1 : Int) % 4 = sl := ⟨_, rfl⟩
  obtain ⟨vl, hvl⟩ : ∃ vl : Int, (len1 : Int) / 4 % 4 = vl := ⟨_, rfl⟩
  have HLV := okL_ld len1
  rw [hsl, hvl] at HLV
  rw [hsl, hvl]
  obtain ⟨hx, hlm⟩ := tab_more_plain (kind := 3) H1.out (by omega) HLV (by omega)
  have HX := Lib.hid hx
  have HLM := Lib.hid hlm
  clear hsl hvl HLV hx hlm
  go_wp2_with fail
  refine (implTNew_any 3 sl vl 0 _ (HF.out.stay K5.out.1)).mono ?_
  rintro e y6 ⟨h6, hb⟩
  obtain ⟨nt, hnt⟩ : ∃ nt, newT 3 sl vl 0 = nt := ⟨_, rfl⟩
  have HNS := Lib.hid (show nt.slots = [⟨0, 0, false, false, false⟩, ⟨0, 0, false, false, false⟩, ⟨0, 0, false, false, false⟩, ⟨0, 0, false, false, false⟩] by rw [← hnt]; rfl)
  rw [hnt] at h6 HX HLM
  rcases h6 with ⟨h6, -⟩ | ⟨-, ss, q, rfl, hR, hQ, -, -⟩
  · rw [HX.out] at h6; cases h6
  have K6 := Lib.hid (K5.out.stay hb)
  have T6 := Lib.hid (T5.out.stay hb)
  clear hb K5 T5 hnt
  obtain ⟨Y7, hY7⟩ : ∃ Y7, y6.alloc (.cells (nt.cs ss q) 37) = Y7 := ⟨_, rfl⟩
  have hb7 : Below y6.heap.size y6 Y7 := hY7 ▸ (Below.refl _ _).alloc (Nat.le_refl _) _
  have bn7 : Box Y7 y6.heap.size 37 (nt.cs ss q) := hY7 ▸ Box.fresh _ _ _
  go_wp2_with fail
  obtain ⟨V, hV⟩ : ∃ V, Y7.drew = V := ⟨_, rfl⟩
  have hbV : Below y6.heap.size y6 V := hV ▸ hb7.drew
  have KV := Lib.hid (K6.out.stay hbV)
  have TV := T6.out.stay hbV
  have HN := Lib.hid (show Box V y6.heap.size 37 (nt.cs ss q) from hV ▸ bn7.drew)
  have htH : ThH V (nt, ss, q) := ⟨hR.stay hbV, hQ.stay hbV⟩
  obtain ⟨s1, W1, s2, W2, r1, r2, bW1, P1⟩ := ord1 V ⟨some ⟨g, 0, none⟩, l.length, c⟩ l TV (by omega) (nt, ss, q) htH 25 25
  obtain ⟨s3, W3, s4, W4, r3, r4, bW3, P2⟩ := ord2 V ⟨some ⟨g, 0, none⟩, l.length, c⟩ l TV (by omega) (nt, ss, q) htH 25 25
  obtain ⟨s5, W5, s6, W6, r5, r6, bW5, P3⟩ := ord3 V ⟨some ⟨g, 0, none⟩, l.length, c⟩ l TV (by omega) (nt, ss, q) htH 25 25
  have bA : Below V.heap.size V (V.alloc (.cells #[] 37)) := (Below.refl _ _).alloc (Nat.le_refl _) _
  have cV0 := HN.out.cell 0 _ rfl
  have cV1 := HN.out.cell 1 _ rfl
  have cV2 := HN.out.cell 2 _ rfl
  have cV3 := HN.out.cell 3 _ rfl
  have cV4 := HN.out.cell 4 _ rfl
  have cV5 := HN.out.cell 5 _ rfl
  have cV6 := HN.out.cell 6 _ rfl
  have cV7 := HN.out.cell 7 _ rfl
  have cA0 := (HN.out.stay bA).cell 0 _ rfl
  have cA1 := (HN.out.stay bA).cell 1 _ rfl
  have cA2 := (HN.out.stay bA).cell 2 _ rfl
  have cA3 := (HN.out.stay bA).cell 3 _ rfl
  have cA4 := (HN.out.stay bA).cell 4 _ rfl
  have cA5 := (HN.out.stay bA).cell 5 _ rfl
  have cA6 := (HN.out.stay bA).cell 6 _ rfl
  have cA7 := (HN.out.stay bA).cell 7 _ rfl
  have cW0 := (HN.out.stay bW1).cell 0 _ rfl
  have cW1 := (HN.out.stay bW1).cell 1 _ rfl
  have cW2 := (HN.out.stay bW1).cell 2 _ rfl
  have cW3 := (HN.out.stay bW1).cell 3 _ rfl
  have cW4 := (HN.out.stay bW1).cell 4 _ rfl
  have cW5 := (HN.out.stay bW1).cell 5 _ rfl
  have cW6 := (HN.out.stay bW1).cell 6 _ rfl
  have cW7 := (HN.out.stay bW1).cell 7 _ rfl
  have PP1 := Lib.hid P1
  have PP2 := Lib.hid P2
  have PP3 := Lib.hid P3
  have RR1 := Lib.hid r1
  have RR2 := Lib.hid r2
  have RR3 := Lib.hid r3
  have RR4 := Lib.hid r4
  have RR5 := Lib.hid r5
  have RR6 := Lib.hid r6
  clear P1 P2 P3 r1 r2 r3 r4 r5 r6 bW1 bW3 bW5 bA TV htH hbV hb7 bn7 hR hQ hY7 K6 T6
  go_cut [9] (fun sl wx => ∃ s9 : Sl, sl = .slice s9.a s9.n s9.c ∧ AppP V l (nt, ss, q) s9 wx)
  case first =>
    go_region_law (first
      | refine step_append_run rfl (.tmp 48) (.tmp 49) 25 rfl (.slice (some ⟨V.heap.size, 0, none⟩) 0 0) (.slice (some ⟨g, 0, none⟩) l.length c) (by simp [Act.eval]) (by simp [Act.eval]) (.slice s1.a s1.n s1.c) W1 RR1.out ?_
      | refine step_append_run rfl (.tmp 48) (.tmp 49) 25 rfl (.slice (some ⟨V.heap.size, 0, none⟩) 0 0) (.slice (some ⟨g, 0, none⟩) l.length c) (by simp [Act.eval]) (by simp [Act.eval]) (.slice s3.a s3.n s3.c) W3 RR3.out ?_
      | refine step_append_run rfl (.tmp 48) (.tmp 49) 25 rfl (.slice (some ⟨V.heap.size + 1, 0, none⟩) 0 0) (.slice (some ⟨g, 0, none⟩) l.length c) (by simp [Act.eval]) (by simp [Act.eval]) (.slice s5.a s5.n s5.c) W5 RR5.out ?_
      | refine step_append_run rfl (.tmp 50) (.tmp 52) 25 rfl (.slice s1.a s1.n s1.c) (.slice (some ⟨W1.heap.size, 0, none⟩) 1 1) (by simp [Act.eval]) (by simp [Act.eval]) (.slice s2.a s2.n s2.c) W2 RR2.out ?_
      | refine step_append_run rfl (.tmp 50) (.tmp 52) 25 rfl (.slice s3.a s3.n s3.c) (.slice (some ⟨V.heap.size + 1, 0, none⟩) 1 1) (by simp [Act.eval]) (by simp [Act.eval]) (.slice s4.a s4.n s4.c) W4 RR4.out ?_
      | refine step_append_run rfl (.tmp 50) (.tmp 52) 25 rfl (.slice s5.a s5.n s5.c) (.slice (some ⟨V.heap.size, 0, none⟩) 1 1) (by simp [Act.eval]) (by simp [Act.eval]) (.slice s6.a s6.n s6.c) W6 RR6.out ?_)
    all_goals
      go_wp2_with fail
      go_meet
      first | exact ⟨s2, rfl, PP1.out⟩ | exact ⟨s4, rfl, PP2.out⟩ | exact ⟨s6, rfl, PP3.out⟩
  case rest =>
    obtain ⟨s9, rfl, hP⟩ := hcut
    obtain ⟨m, hm⟩ : ∃ m, l ++ [nt] = m := ⟨_, rfl⟩
    have hml : m.length = l.length + 1 := by rw [← hm]; simp
    have hmn : ∀ h : l.length < m.length, m[l.length] = nt := by subst hm; intro h; simp
    have hT9 : HasT wc s9 m := hm ▸ hP.1
    have KC := Lib.hid (KV.out.stay hP.2)
    rw [hm] at HLM
    obtain ⟨b, o, e9, -⟩ := hT9.ne2 (j := 0) (by omega)
    obtain ⟨s9a, s9n, s9c⟩ := s9
    have e9n := hT9.1
    dsimp only at e9 e9n
    subst e9 e9n
    dsimp only
    have TC := Lib.hid hT9
    obtain ⟨su, hsu⟩ : ∃ su, textV m = su := ⟨_, rfl⟩
    have HSU := Lib.hid hsu
    have hmz : m.length ≤ 1048576 := by omega
    obtain ⟨tu, htu, htl⟩ := tab_pre l nt
    have HPRE := Lib.hid (show su = sa ++ B tu by
      rw [← hsu, HVA.out]
      have h1 : textV m = B (tabL 0 m) := by simp [textV, HLM.out]
      rw [h1, B_app, ← htu, hm])
    have hsz : (sa.size : Int) < (su.size : Int) := by
      have h := congrArg ByteArray.size HPRE.out
      rw [ByteArray.size_append, B_size] at h
      omega
    have hmi : (l.length : Int) < (m.length : Int) := by omega
    have HMN := Lib.hid hmn
    have wl : IntKind.i64.wrap (l.length : Int) = (l.length : Int) := IntWalk.i64_in _ (by omega)
    have HLIV := Lib.hid (show tabLive m ⟨0, 0, false, false, false⟩ = false by
      have : inR 0 1 m.length = false := by simp [inR]
      simp [tabLive, liveB, this])
    have HML := Lib.hid hml
    clear hP hT9 hm hmn hsu htu htl hml KV HN PP1 PP2 PP3 RR1 RR2 RR3 RR4 RR5 RR6 cV0 cV1 cV2 cV3 cV4 cV5 cV6 cV7 cA0 cA1 cA2 cA3 cA4 cA5 cA6 cA7 cW0 cW1 cW2 cW3 cW4 cW5 cW6 cW7 hV ee ne
    go_wp2_with fail
    refine (implTabText_val (s := ⟨some ⟨b, o, none⟩, m.length, s9c⟩) HSU.out _ TC.out (HF.out.stay KC.out.1) (HTP.out.stay KC.out.1) hmz).mono ?_
    rintro e y8 ⟨rfl, hb⟩
    have K8 := Lib.hid (KC.out.stay hb)
    have T8 := Lib.hid (TC.out.stay hb)
    clear hb KC TC
    go_wp2
    go_loopw [11] (fun i wr => ∃ k : Nat, k ≤ 4 ∧ i = .int .i64 k ∧ Kn w [] wr ∧ HasT wr ⟨some ⟨b, o, none⟩, m.length, s9c⟩ m) (fun i _ => 4 - (intOf i).toNat)
    case atStart => exact ⟨0, by omega, rfl, K8.out, T8.out⟩
    case round =>
      clear K8 T8
      obtain ⟨k, hk, rfl, Kr, Tr9⟩ := hrel
      have KR := Lib.hid Kr
      have TR := Lib.hid Tr9
      clear Kr Tr9
      by_cases hlt : k < 4
      · have hlt' : (k : Int) < 4 := by omega
        obtain ⟨b', o', e, hTb⟩ := TR.out.ne2 (j := l.length) (by have := HML.out; omega)
        simp only [Option.some.injEq, Addr.mk.injEq] at e
        obtain ⟨rfl, rfl, -⟩ := e
        obtain ⟨ss2, qs2, hR2, -, hA2⟩ := hTb l.length (by have := HML.out; omega)
        rw [HMN.out _] at hR2 hA2
        rw [HNS.out] at hR2
        obtain ⟨b3, o3, e3, hA3⟩ := hR2.at (i := k) (by simpa using hlt)
        have hn3 := hR2.len
        obtain ⟨ss2a, ss2n, ss2c⟩ := ss2
        dsimp only at e3 hn3
        subst e3 hn3
        have hnull : ([⟨0, 0, false, false, false⟩, ⟨0, 0, false, false, false⟩, ⟨0, 0, false, false, false⟩, ⟨0, 0, false, false, false⟩] : List R5)[k]'(by simpa using hlt) = ⟨0, 0, false, false, false⟩ := by
          rcases (by omega : k = 0 ∨ k = 1 ∨ k = 2 ∨ k = 3) with rfl | rfl | rfl | rfl <;> rfl
        rw [hnull] at hA3
        have c5 : wr.cell? ⟨b, o + l.length * 8 + 5, none⟩ = some (.slice (some ⟨b3, o3, none⟩) 4 ss2c) := hA2 5 _ rfl
        have d0 : wr.cell? ⟨b3, o3 + k * 5, none⟩ = some (.int .i64 0) := hA3 0 _ rfl
        have d1 := hA3 1 _ rfl
        have d2 := hA3 2 _ rfl
        have d3 := hA3 3 _ rfl
        have d4 := hA3 4 _ rfl
        clear hTb hR2 hA2 hA3 hnull
        go_wp2_with fail
        refine (implTabLive_any m ⟨some ⟨b, o, none⟩, m.length, s9c⟩ ⟨0, 0, false, false, false⟩ _ TR.out (HF.out.stay KR.out.1) hmz).mono ?_
        rintro e y9 ⟨rfl, hb⟩
        rw [HLIV.out]
        have KS := Lib.hid (KR.out.stay hb)
        have TS := Lib.hid (TR.out.stay hb)
        clear hb KR TR c5 d0 d1 d2 d3 d4
        go_wp2
        go_roundw
        case rel => exact ⟨k + 1, by omega, by go_num, KS.out, TS.out⟩
        case measure => simp [intOf]; omega
      · have hlt' : ¬ (k : Int) < 4 := by omega
        go_wp2_with fail
        refine (implTabOk_val (s := ⟨some ⟨b, o, none⟩, m.length, s9c⟩) HLM.out _ TR.out (HF.out.stay KR.out.1) hmz).mono ?_
        rintro e y9 ⟨rfl, hb⟩
        have KS := Lib.hid (KR.out.stay hb)
        clear hb KR TR
        have hq : ((su.extract 0 sa.size).toList == sa.toList) = true := by rw [HPRE.out, ext_app]; exact toList_self sa
        go_wp2
        go_ret
        exact ⟨rfl, KS.out.1⟩
end Go.Proofs.YtpahahonopiblaaDoor
