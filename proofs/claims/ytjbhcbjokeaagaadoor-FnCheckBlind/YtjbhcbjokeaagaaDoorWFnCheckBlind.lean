/-
  The walk of laws.FnCheckBlind.
-/
import Derived.Test.YtjbhcbjokeaagaaDoorCkM
import Derived.Test.YtjbhcbjokeaagaaDoorTaM
import Derived.Test.YtjbhcbjokeaagaaDoorCkN
namespace Go.Proofs.YtjbhcbjokeaagaaDoor
open Go.RowKit
set_option maxRecDepth 100000
set_option linter.unusedVariables false

set_option maxHeartbeats 8000000 in
theorem walk_FnCheckBlind (a0 : Option Addr) (len0 cap0 : Nat) (z0 : List Int) (a1 : Option Addr) (len1 cap1 : Nat) (z1 : List Int) (w : World) (hKF : KF w) (hET : ET w) (w0 : IsRow .u8 w a0 len0 cap0 z0) (w1 : IsRow .u8 w a1 len1 cap1 z1) :
    Calls Tryd.prog 5 #[.slice a0 len0 cap0, .slice a1 len1 cap1] w fun e w' => e = .returned (.bool true) ∧ Below w.heap.size w w' := by
  by_cases g0 : (1048576 : Int) < (len0 : Int)
  · go_enter Tryd.func5, Tryd.ntmps5
    go_wp2
    go_ret
    exact ⟨rfl, Below.refl _ _⟩
  by_cases g1 : (1048576 : Int) < (len1 : Int)
  · go_enter Tryd.func5, Tryd.ntmps5
    go_wp2
    go_ret
    exact ⟨rfl, Below.refl _ _⟩
  clear w1
  have W0 := Lib.hid w0
  have HF := Lib.hid hKF
  have HE := Lib.hid hET
  clear w0 hKF hET
  go_enter Tryd.func5, Tryd.ntmps5
  go_wp2_with fail
  refine (drawCC_any a0 len0 cap0 z0 _ W0.out).mono ?_
  rintro e y0 ⟨g, c, l, q, rfl, hT, l3, l8, hzs, hb⟩
  have K0 := Lib.hid ((Kn.start hb).new 25 (C5.cs q))
  have T0 := Lib.hid (hT.stay ((Below.refl _ _).alloc (Nat.le_refl _) (.cells (C5.cs q) 25)))
  have HZS := Lib.hid hzs
  have hz : l.length ≤ 1048576 := by omega
  clear W0 hb hT hzs
  obtain ⟨v, hv⟩ : ∃ v, chkV l q = v := ⟨_, rfl⟩
  have HV := Lib.hid hv
  clear hv
  go_wp2_with fail
  refine (implCheck_val (s := ⟨some ⟨g, 0, none⟩, l.length, c⟩) HV.out _ T0.out (HF.out.stay K0.out.1) (HE.out.stay K0.out.1) hz).mono ?_
  rintro e y1 ⟨rfl, hb⟩
  have K1 := Lib.hid (K0.out.stay hb)
  have T1 := Lib.hid (T0.out.stay hb)
  clear hb K0 T0
  have c0 := K1.out.c (b := y0.heap.size) (T := 25) (vs := C5.cs q) (by simp) 0 _ rfl
  have c1 := K1.out.c (b := y0.heap.size) (T := 25) (vs := C5.cs q) (by simp) 1 _ rfl
  have c2 := K1.out.c (b := y0.heap.size) (T := 25) (vs := C5.cs q) (by simp) 2 _ rfl
  have c3 := K1.out.c (b := y0.heap.size) (T := 25) (vs := C5.cs q) (by simp) 3 _ rfl
  have c4 := K1.out.c (b := y0.heap.size) (T := 25) (vs := C5.cs q) (by simp) 4 _ rfl
  go_wp2_with fail
  refine (specCheck_val (s := ⟨some ⟨g, 0, none⟩, l.length, c⟩) HV.out _ T1.out hz HZS.out).mono ?_
  rintro e y2 ⟨rfl, hb⟩
  have K2 := Lib.hid (K1.out.stay hb)
  have T2 := Lib.hid (T1.out.stay hb)
  clear hb K1 T1 c0 c1 c2 c3 c4
  have c0 := K2.out.c (b := y0.heap.size) (T := 25) (vs := C5.cs q) (by simp) 0 _ rfl
  have c1 := K2.out.c (b := y0.heap.size) (T := 25) (vs := C5.cs q) (by simp) 1 _ rfl
  have c2 := K2.out.c (b := y0.heap.size) (T := 25) (vs := C5.cs q) (by simp) 2 _ rfl
  have c3 := K2.out.c (b := y0.heap.size) (T := 25) (vs := C5.cs q) (by simp) 3 _ rfl
  have c4 := K2.out.c (b := y0.heap.size) (T := 25) (vs := C5.cs q) (by simp) 4 _ rfl
  have fin : ∀ y : World, Kn w [(y0.heap.size, 25, C5.cs q)] y → HasT y ⟨some ⟨g, 0, none⟩, l.length, c⟩ l → Calls Tryd.prog 8 #[.slice (some ⟨g, 0, none⟩) l.length c, .agg #[.int .i64 q.k, .int .i64 q.r, .int .i64 q.a, .int .i64 q.b, .int .i64 q.n]] y fun e y' => e = .returned (.int .i64 v) ∧ Below w.heap.size w y' := fun y hk ht =>
    (specCheck_val (s := ⟨some ⟨g, 0, none⟩, l.length, c⟩) HV.out _ ht hz HZS.out).mono fun e y' h => ⟨h.1, (hk.stay h.2).1⟩
  have FIN := Lib.hid fin
  clear fin
  obtain ⟨b1, hb1⟩ : ∃ b1, tabOk l = b1 := ⟨_, rfl⟩
  have HB1 := Lib.hid hb1
  clear hb1
  go_wp2_with fail
  refine (specTabOk_val' (s := ⟨some ⟨g, 0, none⟩, l.length, c⟩) HB1.out _ T2.out hz HZS.out).mono ?_
  rintro e y3 ⟨rfl, hb⟩
  have K3 := Lib.hid (K2.out.stay hb)
  have T3 := Lib.hid (T2.out.stay hb)
  clear hb K2 T2 c0 c1 c2 c3 c4
  have c0 := K3.out.c (b := y0.heap.size) (T := 25) (vs := C5.cs q) (by simp) 0 _ rfl
  have c1 := K3.out.c (b := y0.heap.size) (T := 25) (vs := C5.cs q) (by simp) 1 _ rfl
  have c2 := K3.out.c (b := y0.heap.size) (T := 25) (vs := C5.cs q) (by simp) 2 _ rfl
  have c3 := K3.out.c (b := y0.heap.size) (T := 25) (vs := C5.cs q) (by simp) 3 _ rfl
  have c4 := K3.out.c (b := y0.heap.size) (T := 25) (vs := C5.cs q) (by simp) 4 _ rfl
  cases b1
  · go_wp2_with fail
    refine (FIN.out _ K3.out T3.out).mono ?_
    rintro e y9 ⟨rfl, hb⟩
    have HB := Lib.hid hb
    clear hb
    go_wp2
    go_ret
    exact ⟨rfl, HB.out⟩
  obtain ⟨b2, hb2⟩ : ∃ b2, q.ok = b2 := ⟨_, rfl⟩
  have HB2 := Lib.hid hb2
  clear hb2
  go_wp2_with fail
  refine (specCallOk_val HB2.out _).mono ?_
  rintro e y4 ⟨rfl, hb⟩
  have K4 := Lib.hid (K3.out.stay hb)
  have T4 := Lib.hid (T3.out.stay hb)
  clear hb K3 T3 c0 c1 c2 c3 c4
  have c0 := K4.out.c (b := y0.heap.size) (T := 25) (vs := C5.cs q) (by simp) 0 _ rfl
  have c1 := K4.out.c (b := y0.heap.size) (T := 25) (vs := C5.cs q) (by simp) 1 _ rfl
  have c2 := K4.out.c (b := y0.heap.size) (T := 25) (vs := C5.cs q) (by simp) 2 _ rfl
  have c3 := K4.out.c (b := y0.heap.size) (T := 25) (vs := C5.cs q) (by simp) 3 _ rfl
  have c4 := K4.out.c (b := y0.heap.size) (T := 25) (vs := C5.cs q) (by simp) 4 _ rfl
  cases b2
  · go_wp2_with fail
    refine (FIN.out _ K4.out T4.out).mono ?_
    rintro e y9 ⟨rfl, hb⟩
    have HB := Lib.hid hb
    clear hb
    go_wp2
    go_ret
    exact ⟨rfl, HB.out⟩
  obtain ⟨k9, r1, r8, ca0, ca3⟩ := ok_k HB2.out
  by_cases hgt : (l.length : Int) < q.r
  · go_wp2_with fail
    refine (FIN.out _ K4.out T4.out).mono ?_
    rintro e y9 ⟨rfl, hb⟩
    have HB := Lib.hid hb
    clear hb
    go_wp2
    go_ret
    exact ⟨rfl, HB.out⟩
  obtain ⟨jr, er⟩ : ∃ jr : Nat, q.r = (jr : Int) + 1 := ⟨(q.r - 1).toNat, by omega⟩
  obtain ⟨ja, ea⟩ : ∃ ja : Nat, q.a = (ja : Int) := ⟨q.a.toNat, by omega⟩
  have hjr : jr < l.length := by omega
  obtain ⟨ck, cr, ca, cbb, cn⟩ := q
  dsimp only at *
  subst er ea
  have hja : ja < 4 := by omega
  have hjr' : (jr : Int) < (l.length : Int) := by omega
  have hja' : (ja : Int) < 4 := by omega
  have wr : wrap64 ((jr : Int) + 1 - 1) = (jr : Int) := by unfold wrap64; omega
  have wr2 : IntKind.i64.wrap (jr : Int) = (jr : Int) := IntWalk.i64_in _ (by omega)
  have wa : IntKind.i64.wrap (ja : Int) = (ja : Int) := IntWalk.i64_in _ (by omega)
  obtain ⟨ss, qs, -, -, hA⟩ : ∃ ss qs, HasR y4 ss l[jr].slots ∧ HasQ y4 qs l[jr].queue ∧ At y4 g (jr * 8) (l[jr].cs ss qs) := by
    obtain ⟨b', o', e, h⟩ := T4.out.ne hjr
    simp only [Option.some.injEq, Addr.mk.injEq] at e
    obtain ⟨rfl, rfl, -⟩ := e
    obtain ⟨ss, qs, h1, h2, hA⟩ := h jr hjr
    exact ⟨ss, qs, h1, h2, by simpa using hA⟩
  have d0 : y4.cell? ⟨g, jr * 8, none⟩ = some (.int .i64 l[jr].kind) := hA 0 _ rfl
  clear hA
  by_cases hkd : l[jr].kind = 3
  case neg =>
    have hkd' : (l[jr].kind == 3) = false := by simpa using hkd
    generalize l[jr].kind = kd at *
    go_wp2_with fail
    refine (FIN.out _ K4.out T4.out).mono ?_
    rintro e y9 ⟨rfl, hb⟩
    have HB := Lib.hid hb
    clear hb
    go_wp2
    go_ret
    exact ⟨rfl, HB.out⟩
  have HKD := Lib.hid hkd
  rw [hkd] at d0
  clear hkd
  have HRUN := Lib.hid (show isRun l ((jr : Int) + 1) = true by
    have h1 : thAt l ((jr : Int) + 1) = l[jr] := thAt_of hjr (by omega)
    simp [isRun, h1, HKD.out, inR]; omega)
  obtain ⟨kk, hkk⟩ : ∃ kk : Nat, len1 % l.length = kk := ⟨_, rfl⟩
  have hkl : kk < l.length := hkk ▸ Nat.mod_lt _ (by omega)
  have hmod : Int.tmod (len1 : Int) (l.length : Int) = (kk : Int) := by rw [← hkk]; rfl
  have hmod2 : (len1 : Int) % (l.length : Int) = (kk : Int) := by rw [← hkk]; rfl
  have hkl' : (kk : Int) < (l.length : Int) := by omega
  have wk : IntKind.i64.wrap (kk : Int) = (kk : Int) := IntWalk.i64_in _ (by omega)
  have hl0 : ¬ (l.length : Int) = 0 := by omega
  have hl0' : ((l.length : Int) == 0) = false := by simpa using hl0
  obtain ⟨u, hu⟩ : ∃ u, chkSees l ((jr : Int) + 1) ((kk : Int) + 1) = u := ⟨_, rfl⟩
  have HU := Lib.hid hu
  have HKK := Lib.hid hkk
  clear hu hkk
  go_wp2_with fail
  refine (implCheckSees_val (s := ⟨some ⟨g, 0, none⟩, l.length, c⟩) HU.out _ T4.out (HF.out.stay K4.out.1) hz).mono ?_
  rintro e y5 ⟨rfl, hb⟩
  have K5 := Lib.hid (K4.out.stay hb)
  have T5 := Lib.hid (T4.out.stay hb)
  clear hb K4 T4 d0 c0 c1 c2 c3 c4
  cases u
  case true =>
    go_wp2
    go_ret
    exact ⟨rfl, K5.out.1⟩
  have c0 := K5.out.c (b := y0.heap.size) (T := 25) (vs := C5.cs ⟨ck, (jr : Int) + 1, (ja : Int), cbb, cn⟩) (by simp) 0 _ rfl
  have c1 := K5.out.c (b := y0.heap.size) (T := 25) (vs := C5.cs ⟨ck, (jr : Int) + 1, (ja : Int), cbb, cn⟩) (by simp) 1 _ rfl
  have c2 := K5.out.c (b := y0.heap.size) (T := 25) (vs := C5.cs ⟨ck, (jr : Int) + 1, (ja : Int), cbb, cn⟩) (by simp) 2 _ rfl
  have c3 := K5.out.c (b := y0.heap.size) (T := 25) (vs := C5.cs ⟨ck, (jr : Int) + 1, (ja : Int), cbb, cn⟩) (by simp) 3 _ rfl
  have c4 := K5.out.c (b := y0.heap.size) (T := 25) (vs := C5.cs ⟨ck, (jr : Int) + 1, (ja : Int), cbb, cn⟩) (by simp) 4 _ rfl
  have HS := Lib.hid (show seesT (thAt l ((jr : Int) + 1)) l[kk] = false by
    have h := HU.out
    rw [chkSees_run (by rw [HB1.out, HRUN.out]; rfl) (by simp [inR]; omega), thAt_of hkl (show (kk : Int) + 1 - 1 = kk by omega)] at h
    exact h)
  have HOK := Lib.hid (tab_okT HB1.out hkl)
  obtain ⟨ts, sx, W2, hts, hth, hels, hr1, ow1, bl1⟩ := copyT y5 ⟨some ⟨g, 0, none⟩, l.length, c⟩ l T5.out hz 23
  obtain ⟨t, htj, het⟩ := row_get hts hkl
  have hA := els_at hels htj
  have d0 : y5.cell? ⟨g, kk * 8, none⟩ = some (.int .i64 l[kk].kind) := by rw [← het]; exact hA 0 _ rfl
  have dA := stayCell (show y5.cell? ⟨g, kk * 8, none⟩ = some (.int .i64 l[kk].kind) from d0) bl1
  have d3 := stayCell (show y5.cell? ⟨g, kk * 8 + 3, none⟩ = some (.int .i64 l[kk].vers) by rw [← het]; exact hA 3 _ rfl) bl1
  have d4 := stayCell (show y5.cell? ⟨g, kk * 8 + 4, none⟩ = some (.int .i64 l[kk].num) by rw [← het]; exact hA 4 _ rfl) bl1
  obtain ⟨gx, curx, hsx, hgx, bx, -⟩ := ow1.form (by have := congrArg List.length hts; simp at this; omega)
  have hsn : sx.n = l.length := by rw [ow1.1, ← hts]; simp
  have hgl := cell_lt d0
  have hne : g ≠ gx := by omega
  obtain ⟨sxa, sxn, sxc⟩ := sx
  dsimp only at hsx hsn
  subst hsx hsn
  have x3 := ow1.at szT rfl htj 3 _ rfl
  have x4 := ow1.at szT rfl htj 4 _ rfl
  have x6 := ow1.at szT rfl htj 6 _ rfl
  have f3 := ow1.thaw rfl (kk * 8 + 3)
  have f4 := ow1.thaw rfl (kk * 8 + 4)
  have f6 := ow1.thaw rfl (kk * 8 + 6)
  have OW := Lib.hid ow1
  have HTH := Lib.hid hth
  have HTS := Lib.hid hts
  have HTJ := Lib.hid htj
  have HET := Lib.hid het
  have BL := Lib.hid bl1
  have K6 := Lib.hid (K5.out.stay bl1)
  -- behind whatever was stored, one is told the same
  have last : ∀ (Y : World) (x : T8) (sc : Nat), Below y5.heap.size y5 Y → HasT Y ⟨some ⟨gx, 0, none⟩, l.length, sxc⟩ (l.set kk x) → okT x = true → x.kind = l[kk].kind → x.sec = l[kk].sec → x.vou = l[kk].vou → x.to = l[kk].to → x.slots = l[kk].slots → l[kk].vers ≤ x.vers →
      Calls Tryd.prog 7 #[.slice (some ⟨gx, 0, none⟩) l.length sxc, .agg #[.int .i64 ck, .int .i64 ((jr : Int) + 1), .int .i64 (ja : Int), .int .i64 cbb, .int .i64 cn]] Y fun e Y' => e = .returned (.int .i64 v) ∧ Below w.heap.size w Y' := by
    intro Y x sc hB hT ho e1 e2 e3 e4 e5 e6
    have hT' := tab_set HB1.out hkl ho e1 e4 (by
      rw [e5]
      have := tab_elem' HB1.out hkl
      simp only [elemOk, Bool.and_eq_true] at this
      exact this.2.2) e6
    have hc := (chk_blind (q := ⟨ck, (jr : Int) + 1, (ja : Int), cbb, cn⟩) HB1.out HRUN.out HB2.out hkl hT' e1 e2 e3 e5 HS.out).trans HV.out
    have KY := K5.out.stay hB
    exact (implCheck_val (s := ⟨some ⟨gx, 0, none⟩, l.length, sxc⟩) (c := ⟨ck, (jr : Int) + 1, (ja : Int), cbb, cn⟩) hc _ hT (HF.out.stay KY.1) (HE.out.stay KY.1) (by simpa using hz)).mono fun e Y' h => ⟨h.1, (KY.stay h.2).1⟩
  have LAST := Lib.hid last
  have DY3 := Lib.hid (show y5.cell? ⟨g, kk * 8 + 3, none⟩ = some (.int .i64 l[kk].vers) by rw [← het]; exact hA 3 _ rfl)
  clear last hth hts htj het hels hA ow1 bl1 T5 bx d0 c0 c1 c2 c3 c4
  have c0 := K6.out.c (b := y0.heap.size) (T := 25) (vs := C5.cs ⟨ck, (jr : Int) + 1, (ja : Int), cbb, cn⟩) (by simp) 0 _ rfl
  have c1 := K6.out.c (b := y0.heap.size) (T := 25) (vs := C5.cs ⟨ck, (jr : Int) + 1, (ja : Int), cbb, cn⟩) (by simp) 1 _ rfl
  have c2 := K6.out.c (b := y0.heap.size) (T := 25) (vs := C5.cs ⟨ck, (jr : Int) + 1, (ja : Int), cbb, cn⟩) (by simp) 2 _ rfl
  have c3 := K6.out.c (b := y0.heap.size) (T := 25) (vs := C5.cs ⟨ck, (jr : Int) + 1, (ja : Int), cbb, cn⟩) (by simp) 3 _ rfl
  have c4 := K6.out.c (b := y0.heap.size) (T := 25) (vs := C5.cs ⟨ck, (jr : Int) + 1, (ja : Int), cbb, cn⟩) (by simp) 4 _ rfl
  by_cases hk1 : l[kk].kind = 1
  case pos =>
    obtain ⟨n7, n8⟩ := okT_num1 HOK.out hk1
    obtain ⟨v5, v6⟩ := okT_vers HOK.out
    rw [hk1] at dA
    have HK1 := Lib.hid hk1
    clear hk1
    by_cases hv : 5 < l[kk].vers + 1
    · obtain ⟨nn, hnn⟩ : ∃ nn, (l[kk].num + 7) % 90 = nn := ⟨_, rfl⟩
      obtain ⟨Y1, hY1⟩ : ∃ Y1, W2.setCell ⟨gx, kk * 8 + 4, none⟩ (.int .i64 nn) = Y1 := ⟨_, rfl⟩
      obtain ⟨Y2, hY2⟩ : ∃ Y2, Y1.setCell ⟨gx, kk * 8 + 3, none⟩ (.int .i64 (5 : Int)) = Y2 := ⟨_, rfl⟩
      have o1 : OwnF Tr.cs 8 36 y5.heap.size Y1 ⟨some ⟨gx, 0, none⟩, l.length, sxc⟩ (ts.set kk ({ t.1 with num := nn }, t.2)) := hY1 ▸ OW.out.cell szT rfl HTJ.out _ 4 (by decide) _ rfl
      have hkt : kk < ts.length := by have := congrArg List.length HTS.out; simp at this; omega
      have o2 : OwnF Tr.cs 8 36 y5.heap.size Y2 ⟨some ⟨gx, 0, none⟩, l.length, sxc⟩ (ts.set kk ({ t.1 with num := nn, vers := (5 : Int) }, t.2)) := by
        have h := o1.cell (i := kk) szT rfl (show (ts.set kk ({ t.1 with num := nn }, t.2))[kk]? = some ({ t.1 with num := nn }, t.2) by simp [hkt]) ({ t.1 with num := nn, vers := (5 : Int) }, t.2) 3 (by decide) (.int .i64 (5 : Int)) rfl
        rw [hY2, List.set_set] at h
        exact h
      have b1 : Below y5.heap.size y5 Y1 := hY1 ▸ BL.out.setCell (p := ⟨gx, kk * 8 + 4, none⟩) hgx _
      have b2 : Below y5.heap.size y5 Y2 := hY2 ▸ b1.setCell (p := ⟨gx, kk * 8 + 3, none⟩) hgx _
      have hTF : HasT Y2 ⟨some ⟨gx, 0, none⟩, l.length, sxc⟩ (l.set kk { l[kk] with num := nn, vers := (5 : Int) }) := by
        have := hasT_of o2 (fun x hx => by
          rcases List.mem_or_eq_of_mem_set hx with hx | rfl
          · exact (HTH.out x hx).stay b2
          · exact ((HTH.out t (List.mem_of_getElem? HTJ.out)).stay b2 : ThH Y2 t))
        rw [map_set1 HTS.out] at this
        rw [HET.out] at this
        exact this
      have d31 := stayCell (b := g) (o := kk * 8 + 3) (v := .int .i64 l[kk].vers) (by exact DY3.out) b1
      have x31 := o1.at szT rfl (show (ts.set kk ({ t.1 with num := nn }, t.2))[kk]? = some ({ t.1 with num := nn }, t.2) by simp [hkt]) 3 _ rfl
      have f31 := o1.thaw rfl (kk * 8 + 3)
      have HTF := Lib.hid hTF
      have B2 := Lib.hid b2
      have K7 := Lib.hid (K5.out.stay b2)
      have HOX := Lib.hid (show okT { l[kk] with num := nn, vers := (5 : Int) } = true from ok_page HOK.out HK1.out (by omega) (by omega))
      have HVV := Lib.hid (show l[kk].vers ≤ (5 : Int) by omega)
      have m0 := K7.out.c (b := y0.heap.size) (T := 25) (vs := C5.cs ⟨ck, (jr : Int) + 1, (ja : Int), cbb, cn⟩) (by simp) 0 _ rfl
      have m1 := K7.out.c (b := y0.heap.size) (T := 25) (vs := C5.cs ⟨ck, (jr : Int) + 1, (ja : Int), cbb, cn⟩) (by simp) 1 _ rfl
      have m2 := K7.out.c (b := y0.heap.size) (T := 25) (vs := C5.cs ⟨ck, (jr : Int) + 1, (ja : Int), cbb, cn⟩) (by simp) 2 _ rfl
      have m3 := K7.out.c (b := y0.heap.size) (T := 25) (vs := C5.cs ⟨ck, (jr : Int) + 1, (ja : Int), cbb, cn⟩) (by simp) 3 _ rfl
      have m4 := K7.out.c (b := y0.heap.size) (T := 25) (vs := C5.cs ⟨ck, (jr : Int) + 1, (ja : Int), cbb, cn⟩) (by simp) 4 _ rfl
      clear hTF b1 b2 o1 o2
      go_wp2_with (refine wpList_append_run rfl (.tmp 74) (.tmp 75) 23 rfl (.slice (some ⟨y5.heap.size, 0, none⟩) 0 0) (.slice (some ⟨g, 0, none⟩) l.length c) rfl rfl (.slice (some ⟨gx, 0, none⟩) l.length sxc) W2 hr1 ?_)
      refine (LAST.out Y2 { l[kk] with num := nn, vers := (5 : Int) } 0 B2.out HTF.out HOX.out rfl rfl rfl rfl rfl HVV.out).mono ?_
      rintro e y9 ⟨rfl, hb⟩
      have HB9 := Lib.hid hb
      clear hb
      go_wp2
      go_ret
      exact ⟨rfl, HB9.out⟩
    · obtain ⟨nn, hnn⟩ : ∃ nn, (l[kk].num + 7) % 90 = nn := ⟨_, rfl⟩
      obtain ⟨Y1, hY1⟩ : ∃ Y1, W2.setCell ⟨gx, kk * 8 + 4, none⟩ (.int .i64 nn) = Y1 := ⟨_, rfl⟩
      obtain ⟨Y2, hY2⟩ : ∃ Y2, Y1.setCell ⟨gx, kk * 8 + 3, none⟩ (.int .i64 (l[kk].vers + 1)) = Y2 := ⟨_, rfl⟩
      have o1 : OwnF Tr.cs 8 36 y5.heap.size Y1 ⟨some ⟨gx, 0, none⟩, l.length, sxc⟩ (ts.set kk ({ t.1 with num := nn }, t.2)) := hY1 ▸ OW.out.cell szT rfl HTJ.out _ 4 (by decide) _ rfl
      have hkt : kk < ts.length := by have := congrArg List.length HTS.out; simp at this; omega
      have o2 : OwnF Tr.cs 8 36 y5.heap.size Y2 ⟨some ⟨gx, 0, none⟩, l.length, sxc⟩ (ts.set kk ({ t.1 with num := nn, vers := (l[kk].vers + 1) }, t.2)) := by
        have h := o1.cell (i := kk) szT rfl (show (ts.set kk ({ t.1 with num := nn }, t.2))[kk]? = some ({ t.1 with num := nn }, t.2) by simp [hkt]) ({ t.1 with num := nn, vers := (l[kk].vers + 1) }, t.2) 3 (by decide) (.int .i64 (l[kk].vers + 1)) rfl
        rw [hY2, List.set_set] at h
        exact h
      have b1 : Below y5.heap.size y5 Y1 := hY1 ▸ BL.out.setCell (p := ⟨gx, kk * 8 + 4, none⟩) hgx _
      have b2 : Below y5.heap.size y5 Y2 := hY2 ▸ b1.setCell (p := ⟨gx, kk * 8 + 3, none⟩) hgx _
      have hTF : HasT Y2 ⟨some ⟨gx, 0, none⟩, l.length, sxc⟩ (l.set kk { l[kk] with num := nn, vers := (l[kk].vers + 1) }) := by
        have := hasT_of o2 (fun x hx => by
          rcases List.mem_or_eq_of_mem_set hx with hx | rfl
          · exact (HTH.out x hx).stay b2
          · exact ((HTH.out t (List.mem_of_getElem? HTJ.out)).stay b2 : ThH Y2 t))
        rw [map_set1 HTS.out] at this
        rw [HET.out] at this
        exact this
      have d31 := stayCell (b := g) (o := kk * 8 + 3) (v := .int .i64 l[kk].vers) (by exact DY3.out) b1
      have x31 := o1.at szT rfl (show (ts.set kk ({ t.1 with num := nn }, t.2))[kk]? = some ({ t.1 with num := nn }, t.2) by simp [hkt]) 3 _ rfl
      have f31 := o1.thaw rfl (kk * 8 + 3)
      have HTF := Lib.hid hTF
      have B2 := Lib.hid b2
      have K7 := Lib.hid (K5.out.stay b2)
      have HOX := Lib.hid (show okT { l[kk] with num := nn, vers := (l[kk].vers + 1) } = true from ok_page HOK.out HK1.out (by omega) (by omega))
      have HVV := Lib.hid (show l[kk].vers ≤ (l[kk].vers + 1) by omega)
      have m0 := K7.out.c (b := y0.heap.size) (T := 25) (vs := C5.cs ⟨ck, (jr : Int) + 1, (ja : Int), cbb, cn⟩) (by simp) 0 _ rfl
      have m1 := K7.out.c (b := y0.heap.size) (T := 25) (vs := C5.cs ⟨ck, (jr : Int) + 1, (ja : Int), cbb, cn⟩) (by simp) 1 _ rfl
      have m2 := K7.out.c (b := y0.heap.size) (T := 25) (vs := C5.cs ⟨ck, (jr : Int) + 1, (ja : Int), cbb, cn⟩) (by simp) 2 _ rfl
      have m3 := K7.out.c (b := y0.heap.size) (T := 25) (vs := C5.cs ⟨ck, (jr : Int) + 1, (ja : Int), cbb, cn⟩) (by simp) 3 _ rfl
      have m4 := K7.out.c (b := y0.heap.size) (T := 25) (vs := C5.cs ⟨ck, (jr : Int) + 1, (ja : Int), cbb, cn⟩) (by simp) 4 _ rfl
      clear hTF b1 b2 o1 o2
      go_wp2_with (refine wpList_append_run rfl (.tmp 74) (.tmp 75) 23 rfl (.slice (some ⟨y5.heap.size, 0, none⟩) 0 0) (.slice (some ⟨g, 0, none⟩) l.length c) rfl rfl (.slice (some ⟨gx, 0, none⟩) l.length sxc) W2 hr1 ?_)
      refine (LAST.out Y2 { l[kk] with num := nn, vers := (l[kk].vers + 1) } 0 B2.out HTF.out HOX.out rfl rfl rfl rfl rfl HVV.out).mono ?_
      rintro e y9 ⟨rfl, hb⟩
      have HB9 := Lib.hid hb
      clear hb
      go_wp2
      go_ret
      exact ⟨rfl, HB9.out⟩
  by_cases hk4 : l[kk].kind = 4
  case pos =>
    obtain ⟨v5, v6⟩ := okT_vers HOK.out
    have hk1' : (l[kk].kind == 1) = false := by simpa using hk1
    rw [hk4] at dA
    have HK4 := Lib.hid hk4
    clear hk4 hk1 hk1'
    by_cases hv : 5 < l[kk].vers + 1
    · obtain ⟨W3, hW3⟩ : ∃ W3, W2.alloc (.cells (qC 3) 3) = W3 := ⟨_, rfl⟩
      obtain ⟨Y1, hY1⟩ : ∃ Y1, W3.setCell ⟨gx, kk * 8 + 6, none⟩ (.slice (some ⟨W2.heap.size, 0, none⟩) 1 1) = Y1 := ⟨_, rfl⟩
      obtain ⟨Y2, hY2⟩ : ∃ Y2, Y1.setCell ⟨gx, kk * 8 + 3, none⟩ (.int .i64 (5 : Int)) = Y2 := ⟨_, rfl⟩
      have hkt : kk < ts.length := by have := congrArg List.length HTS.out; simp at this; omega
      have b3 : Below y5.heap.size y5 W3 := hW3 ▸ BL.out.alloc BL.out.size _
      have o3 : OwnF Tr.cs 8 36 y5.heap.size W3 ⟨some ⟨gx, 0, none⟩, l.length, sxc⟩ ts := hW3 ▸ OW.out.stay ((Below.refl _ _).alloc (Nat.le_refl _) _)
      have q3 : Box W3 W2.heap.size 3 (qC 3) := hW3 ▸ Box.fresh _ _ _
      have hgq : W2.heap.size ≠ gx := by have := (OW.out.blk (b := gx) (o := 0) rfl).2.2.1; omega
      have o1 : OwnF Tr.cs 8 36 y5.heap.size Y1 ⟨some ⟨gx, 0, none⟩, l.length, sxc⟩ (ts.set kk ({ t.1 with queue := [3] }, t.2.1, ⟨some ⟨W2.heap.size, 0, none⟩, 1, 1⟩)) := hY1 ▸ o3.cell szT rfl HTJ.out _ 6 (by decide) _ rfl
      have q1 : Box Y1 W2.heap.size 3 (qC 3) := hY1 ▸ q3.other (by exact hgq) _
      have q2 : Box Y2 W2.heap.size 3 (qC 3) := hY2 ▸ q1.other (by exact hgq) _
      have o2 : OwnF Tr.cs 8 36 y5.heap.size Y2 ⟨some ⟨gx, 0, none⟩, l.length, sxc⟩ (ts.set kk ({ t.1 with queue := [3], vers := (5 : Int) }, t.2.1, ⟨some ⟨W2.heap.size, 0, none⟩, 1, 1⟩)) := by
        have h := o1.cell (i := kk) szT rfl (show (ts.set kk ({ t.1 with queue := [3] }, t.2.1, ⟨some ⟨W2.heap.size, 0, none⟩, 1, 1⟩))[kk]? = some ({ t.1 with queue := [3] }, t.2.1, ⟨some ⟨W2.heap.size, 0, none⟩, 1, 1⟩) by simp [hkt]) ({ t.1 with queue := [3], vers := (5 : Int) }, t.2.1, ⟨some ⟨W2.heap.size, 0, none⟩, 1, 1⟩) 3 (by decide) (.int .i64 (5 : Int)) rfl
        rw [hY2, List.set_set] at h
        exact h
      have b1 : Below y5.heap.size y5 Y1 := hY1 ▸ b3.setCell (p := ⟨gx, kk * 8 + 6, none⟩) hgx _
      have b2 : Below y5.heap.size y5 Y2 := hY2 ▸ b1.setCell (p := ⟨gx, kk * 8 + 3, none⟩) hgx _
      have hTF : HasT Y2 ⟨some ⟨gx, 0, none⟩, l.length, sxc⟩ (l.set kk { l[kk] with queue := [3], vers := (5 : Int) }) := by
        have := hasT_of o2 (fun x hx => by
          rcases List.mem_or_eq_of_mem_set hx with hx | rfl
          · exact (HTH.out x hx).stay b2
          · exact ⟨((HTH.out t (List.mem_of_getElem? HTJ.out)).stay b2).1, hasQ_one q2⟩)
        rw [map_set1 HTS.out] at this
        rw [HET.out] at this
        exact this
      have d31 := stayCell (b := g) (o := kk * 8 + 3) (v := .int .i64 l[kk].vers) (by exact DY3.out) b1
      have x31 := o1.at szT rfl (show (ts.set kk ({ t.1 with queue := [3] }, t.2.1, ⟨some ⟨W2.heap.size, 0, none⟩, 1, 1⟩))[kk]? = some ({ t.1 with queue := [3] }, t.2.1, ⟨some ⟨W2.heap.size, 0, none⟩, 1, 1⟩) by simp [hkt]) 3 _ rfl
      have f31 := o1.thaw rfl (kk * 8 + 3)
      have x36 := o3.at szT rfl HTJ.out 6 _ rfl
      have f36 := o3.thaw rfl (kk * 8 + 6)
      have HTF := Lib.hid hTF
      have B2 := Lib.hid b2
      have K7 := Lib.hid (K5.out.stay b2)
      have HOX := Lib.hid (show okT { l[kk] with queue := [3], vers := (5 : Int) } = true from ok_pipe HOK.out HK4.out (by omega))
      have HVV := Lib.hid (show l[kk].vers ≤ (5 : Int) by omega)
      have m0 := K7.out.c (b := y0.heap.size) (T := 25) (vs := C5.cs ⟨ck, (jr : Int) + 1, (ja : Int), cbb, cn⟩) (by simp) 0 _ rfl
      have m1 := K7.out.c (b := y0.heap.size) (T := 25) (vs := C5.cs ⟨ck, (jr : Int) + 1, (ja : Int), cbb, cn⟩) (by simp) 1 _ rfl
      have m2 := K7.out.c (b := y0.heap.size) (T := 25) (vs := C5.cs ⟨ck, (jr : Int) + 1, (ja : Int), cbb, cn⟩) (by simp) 2 _ rfl
      have m3 := K7.out.c (b := y0.heap.size) (T := 25) (vs := C5.cs ⟨ck, (jr : Int) + 1, (ja : Int), cbb, cn⟩) (by simp) 3 _ rfl
      have m4 := K7.out.c (b := y0.heap.size) (T := 25) (vs := C5.cs ⟨ck, (jr : Int) + 1, (ja : Int), cbb, cn⟩) (by simp) 4 _ rfl
      clear hTF b1 b2 o1 o2 o3 q1 q2 q3 b3 x3 x4 x6 f3 f4 f6
      go_wp2_with (refine wpList_append_run rfl (.tmp 74) (.tmp 75) 23 rfl (.slice (some ⟨y5.heap.size, 0, none⟩) 0 0) (.slice (some ⟨g, 0, none⟩) l.length c) rfl rfl (.slice (some ⟨gx, 0, none⟩) l.length sxc) W2 hr1 ?_)
      refine (LAST.out Y2 { l[kk] with queue := [3], vers := (5 : Int) } 0 B2.out HTF.out HOX.out rfl rfl rfl rfl rfl HVV.out).mono ?_
      rintro e y9 ⟨rfl, hb⟩
      have HB9 := Lib.hid hb
      clear hb
      go_wp2
      go_ret
      exact ⟨rfl, HB9.out⟩
    · obtain ⟨W3, hW3⟩ : ∃ W3, W2.alloc (.cells (qC 3) 3) = W3 := ⟨_, rfl⟩
      obtain ⟨Y1, hY1⟩ : ∃ Y1, W3.setCell ⟨gx, kk * 8 + 6, none⟩ (.slice (some ⟨W2.heap.size, 0, none⟩) 1 1) = Y1 := ⟨_, rfl⟩
      obtain ⟨Y2, hY2⟩ : ∃ Y2, Y1.setCell ⟨gx, kk * 8 + 3, none⟩ (.int .i64 (l[kk].vers + 1)) = Y2 := ⟨_, rfl⟩
      have hkt : kk < ts.length := by have := congrArg List.length HTS.out; simp at this; omega
      have b3 : Below y5.heap.size y5 W3 := hW3 ▸ BL.out.alloc BL.out.size _
      have o3 : OwnF Tr.cs 8 36 y5.heap.size W3 ⟨some ⟨gx, 0, none⟩, l.length, sxc⟩ ts := hW3 ▸ OW.out.stay ((Below.refl _ _).alloc (Nat.le_refl _) _)
      have q3 : Box W3 W2.heap.size 3 (qC 3) := hW3 ▸ Box.fresh _ _ _
      have hgq : W2.heap.size ≠ gx := by have := (OW.out.blk (b := gx) (o := 0) rfl).2.2.1; omega
      have o1 : OwnF Tr.cs 8 36 y5.heap.size Y1 ⟨some ⟨gx, 0, none⟩, l.length, sxc⟩ (ts.set kk ({ t.1 with queue := [3] }, t.2.1, ⟨some ⟨W2.heap.size, 0, none⟩, 1, 1⟩)) := hY1 ▸ o3.cell szT rfl HTJ.out _ 6 (by decide) _ rfl
      have q1 : Box Y1 W2.heap.size 3 (qC 3) := hY1 ▸ q3.other (by exact hgq) _
      have q2 : Box Y2 W2.heap.size 3 (qC 3) := hY2 ▸ q1.other (by exact hgq) _
      have o2 : OwnF Tr.cs 8 36 y5.heap.size Y2 ⟨some ⟨gx, 0, none⟩, l.length, sxc⟩ (ts.set kk ({ t.1 with queue := [3], vers := (l[kk].vers + 1) }, t.2.1, ⟨some ⟨W2.heap.size, 0, none⟩, 1, 1⟩)) := by
        have h := o1.cell (i := kk) szT rfl (show (ts.set kk ({ t.1 with queue := [3] }, t.2.1, ⟨some ⟨W2.heap.size, 0, none⟩, 1, 1⟩))[kk]? = some ({ t.1 with queue := [3] }, t.2.1, ⟨some ⟨W2.heap.size, 0, none⟩, 1, 1⟩) by simp [hkt]) ({ t.1 with queue := [3], vers := (l[kk].vers + 1) }, t.2.1, ⟨some ⟨W2.heap.size, 0, none⟩, 1, 1⟩) 3 (by decide) (.int .i64 (l[kk].vers + 1)) rfl
        rw [hY2, List.set_set] at h
        exact h
      have b1 : Below y5.heap.size y5 Y1 := hY1 ▸ b3.setCell (p := ⟨gx, kk * 8 + 6, none⟩) hgx _
      have b2 : Below y5.heap.size y5 Y2 := hY2 ▸ b1.setCell (p := ⟨gx, kk * 8 + 3, none⟩) hgx _
      have hTF : HasT Y2 ⟨some ⟨gx, 0, none⟩, l.length, sxc⟩ (l.set kk { l[kk] with queue := [3], vers := (l[kk].vers + 1) }) := by
        have := hasT_of o2 (fun x hx => by
          rcases List.mem_or_eq_of_mem_set hx with hx | rfl
          · exact (HTH.out x hx).stay b2
          · exact ⟨((HTH.out t (List.mem_of_getElem? HTJ.out)).stay b2).1, hasQ_one q2⟩)
        rw [map_set1 HTS.out] at this
        rw [HET.out] at this
        exact this
      have d31 := stayCell (b := g) (o := kk * 8 + 3) (v := .int .i64 l[kk].vers) (by exact DY3.out) b1
      have x31 := o1.at szT rfl (show (ts.set kk ({ t.1 with queue := [3] }, t.2.1, ⟨some ⟨W2.heap.size, 0, none⟩, 1, 1⟩))[kk]? = some ({ t.1 with queue := [3] }, t.2.1, ⟨some ⟨W2.heap.size, 0, none⟩, 1, 1⟩) by simp [hkt]) 3 _ rfl
      have f31 := o1.thaw rfl (kk * 8 + 3)
      have x36 := o3.at szT rfl HTJ.out 6 _ rfl
      have f36 := o3.thaw rfl (kk * 8 + 6)
      have HTF := Lib.hid hTF
      have B2 := Lib.hid b2
      have K7 := Lib.hid (K5.out.stay b2)
      have HOX := Lib.hid (show okT { l[kk] with queue := [3], vers := (l[kk].vers + 1) } = true from ok_pipe HOK.out HK4.out (by omega))
      have HVV := Lib.hid (show l[kk].vers ≤ (l[kk].vers + 1) by omega)
      have m0 := K7.out.c (b := y0.heap.size) (T := 25) (vs := C5.cs ⟨ck, (jr : Int) + 1, (ja : Int), cbb, cn⟩) (by simp) 0 _ rfl
      have m1 := K7.out.c (b := y0.heap.size) (T := 25) (vs := C5.cs ⟨ck, (jr : Int) + 1, (ja : Int), cbb, cn⟩) (by simp) 1 _ rfl
      have m2 := K7.out.c (b := y0.heap.size) (T := 25) (vs := C5.cs ⟨ck, (jr : Int) + 1, (ja : Int), cbb, cn⟩) (by simp) 2 _ rfl
      have m3 := K7.out.c (b := y0.heap.size) (T := 25) (vs := C5.cs ⟨ck, (jr : Int) + 1, (ja : Int), cbb, cn⟩) (by simp) 3 _ rfl
      have m4 := K7.out.c (b := y0.heap.size) (T := 25) (vs := C5.cs ⟨ck, (jr : Int) + 1, (ja : Int), cbb, cn⟩) (by simp) 4 _ rfl
      clear hTF b1 b2 o1 o2 o3 q1 q2 q3 b3 x3 x4 x6 f3 f4 f6
      go_wp2_with (refine wpList_append_run rfl (.tmp 74) (.tmp 75) 23 rfl (.slice (some ⟨y5.heap.size, 0, none⟩) 0 0) (.slice (some ⟨g, 0, none⟩) l.length c) rfl rfl (.slice (some ⟨gx, 0, none⟩) l.length sxc) W2 hr1 ?_)
      refine (LAST.out Y2 { l[kk] with queue := [3], vers := (l[kk].vers + 1) } 0 B2.out HTF.out HOX.out rfl rfl rfl rfl rfl HVV.out).mono ?_
      rintro e y9 ⟨rfl, hb⟩
      have HB9 := Lib.hid hb
      clear hb
      go_wp2
      go_ret
      exact ⟨rfl, HB9.out⟩
  have hk1' : (l[kk].kind == 1) = false := by simpa using hk1
  have hk4' : (l[kk].kind == 4) = false := by simpa using hk4
  have HTF := Lib.hid (show HasT W2 ⟨some ⟨gx, 0, none⟩, l.length, sxc⟩ (l.set kk l[kk]) by
    rw [List.set_getElem_self hkl, ← HTS.out]
    have := hasT_of OW.out (fun x hx => (HTH.out x hx).stay BL.out)
    simpa [HTS.out] using this)
  go_wp2_with (refine wpList_append_run rfl (.tmp 74) (.tmp 75) 23 rfl (.slice (some ⟨y5.heap.size, 0, none⟩) 0 0) (.slice (some ⟨g, 0, none⟩) l.length c) rfl rfl (.slice (some ⟨gx, 0, none⟩) l.length sxc) W2 hr1 ?_)
  refine (LAST.out _ l[kk] 0 BL.out HTF.out HOK.out rfl rfl rfl rfl rfl (Int.le_refl _)).mono ?_
  rintro e y9 ⟨rfl, hb⟩
  have HB9 := Lib.hid hb
  clear hb
  go_wp2
  go_ret
  exact ⟨rfl, HB9.out⟩
end Go.Proofs.YtjbhcbjokeaagaaDoor
