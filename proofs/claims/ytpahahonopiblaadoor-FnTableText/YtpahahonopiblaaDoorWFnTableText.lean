/-
  The walk of laws.FnTableText.
-/
import Derived.Test.YtpahahonopiblaaDoorTxM
import Derived.Test.YtpahahonopiblaaDoorDrawTx
import Derived.Test.YtpahahonopiblaaDoorLdQ
namespace Go.Proofs.YtpahahonopiblaaDoor
open Go.RowKit
set_option maxRecDepth 100000
set_option linter.unusedVariables false

theorem B_ne {l : List UInt8} (h : l ≠ []) : (B l).toList.isEmpty = false := by
  rw [Lib.toList_data]
  cases l with
  | nil => exact absurd rfl h
  | cons a l => rfl
theorem tabL_ne {l : List T8} (h : tabOk l = true) : tabL 0 l ≠ [] := by
  have := (tabOk_len h).1
  cases l with
  | nil => simp at this
  | cons x l => simp [tabL]
theorem count_more {c : UInt8} {L : List UInt8} {k : Nat} (h : k < L.length) : (L.take (k + 1)).count c = (L.take k).count c + if L[k] = c then 1 else 0 := by
  rw [List.take_succ_eq_append_getElem h, List.count_append, List.count_singleton]
  simp
theorem bne_self (b : ByteArray) : (b.toList != b.toList) = false := by simp

set_option maxHeartbeats 8000000 in
theorem walk_FnTableText (a0 : Option Addr) (len0 cap0 : Nat) (z0 : List Int) (a1 : Option Addr) (len1 cap1 : Nat) (z1 : List Int) (w : World) (hKF : KF w) (hTP : TP w) (w0 : IsRow .u8 w a0 len0 cap0 z0) (w1 : IsRow .u8 w a1 len1 cap1 z1) :
    Calls Tryd.prog 4 #[.slice a0 len0 cap0, .slice a1 len1 cap1] w fun e w' => e = .returned (.bool true) ∧ Below w.heap.size w w' := by
  by_cases g0 : (1048576 : Int) < (len0 : Int)
  · go_enter Tryd.func4, Tryd.ntmps4
    go_wp2
    go_ret
    exact ⟨rfl, Below.refl _ _⟩
  by_cases g1 : (1048576 : Int) < (len1 : Int)
  · go_enter Tryd.func4, Tryd.ntmps4
    go_wp2
    go_ret
    exact ⟨rfl, Below.refl _ _⟩
  have W0 := Lib.hid w0
  have W1 := Lib.hid w1
  have HF := Lib.hid hKF
  have HTP := Lib.hid hTP
  clear w0 w1 hKF hTP
  go_enter Tryd.func4, Tryd.ntmps4
  go_wp2_with fail
  refine (drawTx_any a0 len0 cap0 z0 _ W0.out).mono ?_
  rintro e y0 ⟨g, c, l, rfl, hT, l3, l8, hzs, hb⟩
  have K0 := Lib.hid (Kn.start hb)
  have T0 := Lib.hid hT
  have HZ := Lib.hid hzs
  have hz : l.length ≤ 1048576 := by omega
  clear W0 hb hT hzs
  go_wp2_with fail
  refine (drawTbO_any a1 len1 cap1 z1 _ (W1.out.below K0.out.1)).mono ?_
  rintro e y1 ⟨g2, c2, m, rfl, hT, m3, m8, hzs, hb⟩
  have K1 := Lib.hid (K0.out.stay hb)
  have T1 := Lib.hid (T0.out.stay hb)
  have M1 := Lib.hid hT
  have HZM := Lib.hid hzs
  have hzm : m.length ≤ 1048576 := by omega
  clear W1 hb hT hzs T0 K0
  obtain ⟨sa, hsa⟩ : ∃ sa, textV l = sa := ⟨_, rfl⟩
  obtain ⟨sb, hsb⟩ : ∃ sb, textV m = sb := ⟨_, rfl⟩
  have HA := Lib.hid hsa
  have HBB := Lib.hid hsb
  clear hsa hsb
  go_wp2_with fail
  refine (implTabText_val (s := ⟨some ⟨g, 0, none⟩, l.length, c⟩) HA.out _ T1.out (HF.out.stay K1.out.1) (HTP.out.stay K1.out.1) hz).mono ?_
  rintro e y2 ⟨rfl, hb⟩
  have K2 := Lib.hid (K1.out.stay hb)
  have T2 := Lib.hid (T1.out.stay hb)
  have M2 := Lib.hid (M1.out.stay hb)
  clear hb K1 T1 M1
  go_wp2_with fail
  refine (implTabText_val (s := ⟨some ⟨g2, 0, none⟩, m.length, c2⟩) HBB.out _ M2.out (HF.out.stay K2.out.1) (HTP.out.stay K2.out.1) hzm).mono ?_
  rintro e y3 ⟨rfl, hb⟩
  have K3 := Lib.hid (K2.out.stay hb)
  have T3 := Lib.hid (T2.out.stay hb)
  have M3 := Lib.hid (M2.out.stay hb)
  clear hb K2 T2 M2
  have ee : (sa.toList == sa.toList) = true := toList_self sa
  have ne : (sa.toList != sa.toList) = false := bne_self sa
  go_wp2_with fail
  refine (specTabText_val (s := ⟨some ⟨g, 0, none⟩, l.length, c⟩) HA.out _ T3.out hz HZ.out).mono ?_
  rintro e y4 ⟨rfl, hb⟩
  have K4 := Lib.hid (K3.out.stay hb)
  have T4 := Lib.hid (T3.out.stay hb)
  have M4 := Lib.hid (M3.out.stay hb)
  clear hb K3 T3 M3
  have fin : ∀ y : World, Kn w [] y → HasT y ⟨some ⟨g, 0, none⟩, l.length, c⟩ l → Calls Tryd.prog 14 #[.slice (some ⟨g, 0, none⟩) l.length c] y fun e y' => e = .returned (.string sa) ∧ Below w.heap.size w y' := fun y hk ht =>
    (specTabText_val (s := ⟨some ⟨g, 0, none⟩, l.length, c⟩) HA.out _ ht hz HZ.out).mono fun e y' h => ⟨h.1, (hk.stay h.2).1⟩
  have FIN := Lib.hid fin
  clear fin
  cases h1 : tabOk l
  · have e1 : sa.toList.isEmpty = true := by rw [← HA.out]; simp [textV, h1]
    clear h1
    go_wp2_with fail
    refine (FIN.out _ K4.out T4.out).mono ?_
    rintro e y9 ⟨rfl, hb⟩
    have HB := Lib.hid hb
    clear hb
    go_wp2
    go_ret
    exact ⟨rfl, HB.out⟩
  have hva : textV l = B (tabL 0 l) := by simp [textV, h1]
  have e1 : sa.toList.isEmpty = false := by rw [← HA.out, hva]; exact B_ne (tabL_ne h1)
  cases h2 : tabOk m
  · have e2 : sb.toList.isEmpty = true := by rw [← HBB.out]; simp [textV, h2]
    clear h1 h2 hva
    go_wp2_with fail
    refine (FIN.out _ K4.out T4.out).mono ?_
    rintro e y9 ⟨rfl, hb⟩
    have HB := Lib.hid hb
    clear hb
    go_wp2
    go_ret
    exact ⟨rfl, HB.out⟩
  have hvb : textV m = B (tabL 0 m) := by simp [textV, h2]
  have e2 : sb.toList.isEmpty = false := by rw [← HBB.out, hvb]; exact B_ne (tabL_ne h2)
  have HO := Lib.hid (And.intro (tab_all h1) (tab_all h2))
  have HEQ := Lib.hid (show (sa.toList == sb.toList) = dq l m by
    cases hd : dq l m
    · simp only [beq_eq_false_iff_ne, ne_eq]
      intro e
      have : sa = sb := toList_eq (by simpa using e)
      rw [← HA.out, ← HBB.out, hva, hvb] at this
      have := tab_inj HO.out.1 HO.out.2 0 (B_inj this)
      rw [dq_yes this] at hd
      cases hd
    · have := dq_iff.1 hd
      rw [← HA.out, ← HBB.out, this]
      exact toList_self _)
  have HCN := Lib.hid (cnt_tab HO.out.1 0 (by omega))
  have HSZ := Lib.hid (tab_size HO.out.1 0)
  obtain ⟨L, hL⟩ : ∃ L, tabL 0 l = L := ⟨_, rfl⟩
  have HSA := Lib.hid (show sa = B L by rw [← HA.out, hva, hL])
  rw [hL] at HCN HSZ
  clear h1 h2 hva hvb hL FIN
  go_wp2
  have hsz : sa.size = L.length := by rw [HSA.out, B_size]
  have hLz : L.length ≤ 1000 := by have := HSZ.out; omega
  go_loopw [9, 10] (fun n i wr => ∃ k : Nat, k ≤ L.length ∧ i = .int .i64 k ∧ n = .int .i64 ((L.take k).count 10 : Nat) ∧ wr = y4) (fun _ i _ => L.length - (intOf i).toNat)
  case atStart => exact ⟨0, by omega, rfl, by simp, rfl⟩
  case round =>
    obtain ⟨k, hk, rfl, rfl, rfl⟩ := hrel
    by_cases hlt : k < L.length
    · have hlt' : (k : Int) < (L.length : Int) := by omega
      have hg : sa[k]'(by omega) = L[k] := by
        have h := HSA.out
        subst h
        simp [B, ByteArray.getElem_eq_getElem_data]
      obtain ⟨cn, hcn⟩ : ∃ cn, (L.take k).count 10 = cn := ⟨_, rfl⟩
      have hc1 : cn ≤ k := by rw [← hcn]; exact Nat.le_trans List.count_le_length (by rw [List.length_take]; omega)
      have hw : wrap64 ((cn : Int) + 1) = (cn : Int) + 1 := by unfold wrap64; omega
      have HS := Lib.hid (count_more (c := 10) hlt)
      rw [hcn] at HS ⊢
      by_cases hb : L[k] = 10
      · have hq : (((sa[k]'(by omega)).toNat : Int) == 10) = true := by rw [hg, hb]; rfl
        rw [if_pos hb] at HS
        clear hg hcn hb
        go_wp2
        go_roundw
        case rel => exact ⟨k + 1, by omega, by go_num, by rw [HS.out]; go_num, trivial⟩
        case measure => simp [intOf]; omega
      · have hq : (((sa[k]'(by omega)).toNat : Int) == 10) = false := by
          rw [hg]
          have : L[k].toNat ≠ 10 := fun e => hb (UInt8.toNat_inj.1 (by rw [e]; rfl))
          simp; omega
        rw [if_neg hb] at HS
        clear hg hcn hb
        go_wp2
        go_roundw
        case rel => exact ⟨k + 1, by omega, by go_num, by rw [HS.out]; rfl, trivial⟩
        case measure => simp [intOf]; omega
    · have hlt' : ¬ (k : Int) < (L.length : Int) := by omega
      have hj : L.take k = L := List.take_of_length_le (by omega)
      have hcl : ((L.count 10 : Nat) : Int) = (l.length : Int) := by rw [HCN.out]
      rw [hj, hcl]
      obtain ⟨v, hv⟩ : ∃ v, dq l m = v := ⟨_, rfl⟩
      have hq : (sa.toList == sb.toList) = v := HEQ.out.trans hv
      have HV := Lib.hid hv
      obtain ⟨b, o, e3, hTb⟩ := T4.out.ne2 (j := 0) (by show 0 < l.length; omega)
      obtain ⟨b', o', e4, hMb⟩ := M4.out.ne2 (j := 0) (by show 0 < m.length; omega)
      simp only [Option.some.injEq, Addr.mk.injEq] at e3 e4
      obtain ⟨rfl, rfl, -⟩ := e3
      obtain ⟨rfl, rfl, -⟩ := e4
      have HTB := Lib.hid hTb
      have HMB := Lib.hid hMb
      have HZZ := Lib.hid (show ∀ i (h : i < l.length), l[i].slots.length ≤ 1048576 ∧ l[i].queue.length ≤ 1048576 from fun i h => ⟨HZ.out i h, by have := (x_okT_queue (HO.out.1 l[i] (List.getElem_mem h))).1; omega⟩)
      have nn : ((l.length : Int) == (l.length : Int)) = true := by simp
      clear hv hTb hMb hj hcl hlt hk HEQ
      go_wp2_with fail
      refine (ldTable_any l m g 0 c g2 0 c2 _ HTB.out HMB.out hz hzm HZZ.out).mono ?_
      rintro e y9 ⟨rfl, hb⟩
      rw [HV.out]
      have HB := Lib.hid (K4.out.stay hb)
      clear hb
      cases v
      all_goals
        go_wp2
        go_ret
        exact ⟨rfl, HB.out.1⟩
end Go.Proofs.YtpahahonopiblaaDoor
