/-
  The walk of laws.FnCheckLess.
-/
import Derived.Test.YtjbhcbjokeaagaaDoorCkM
import Derived.Test.YtjbhcbjokeaagaaDoorTaM
import Derived.Test.YtjbhcbjokeaagaaDoorCkN
namespace Go.Proofs.YtjbhcbjokeaagaaDoor
open Go.RowKit
set_option maxRecDepth 100000
set_option linter.unusedVariables false

set_option maxHeartbeats 8000000 in
theorem walk_FnCheckLess (a0 : Option Addr) (len0 cap0 : Nat) (z0 : List Int) (a1 : Option Addr) (len1 cap1 : Nat) (z1 : List Int) (w : World) (hKF : KF w) (hET : ET w) (w0 : IsRow .u8 w a0 len0 cap0 z0) (w1 : IsRow .u8 w a1 len1 cap1 z1) :
    Calls Tryd.prog 4 #[.slice a0 len0 cap0, .slice a1 len1 cap1] w fun e w' => e = .returned (.bool true) ∧ Below w.heap.size w w' := by
  by_cases g0 : (1048576 : Int) < (len0 : Int)
  · go_enter Tryd.func4, Tryd.ntmps4
    go_wp2
    go_ret
    exact ⟨rfl, Below.refl _ _⟩
  by_cases g1 : (1048576 : Int) < (len1 : Int)
  · go_enter Tryd.func4, Tryd.ntmps4
    go_wp2
    go_ret
    exact ⟨rfl, Below.refl _ _⟩
  clear w1
  have W0 := Lib.hid w0
  have HF := Lib.hid hKF
  have HE := Lib.hid hET
  clear w0 hKF hET
  go_enter Tryd.func4, Tryd.ntmps4
  go_wp2_with fail
  refine (drawCC_any a0 len0 cap0 z0 _ W0.out).mono ?_
  rintro e y0 ⟨g, c, l, q, rfl, hT, l3, l8, hzs, hb⟩
  have K0 := Lib.hid ((Kn.start hb).new 25 (C5.cs q))
  have T0 := Lib.hid (hT.stay ((Below.refl _ _).alloc (Nat.le_refl _) (.cells (C5.cs q) 25)))
  have HZS := Lib.hid hzs
  have hz : l.length ≤ 1048576 := by omega
  clear W0 hb hT hzs
  obtain ⟨v, hv⟩ : ∃ v, chkV l q = v := ⟨_, rfl⟩
  have HV := Lib.hid hv
  clear hv
  go_wp2_with fail
  refine (implCheck_val (s := ⟨some ⟨g, 0, none⟩, l.length, c⟩) HV.out _ T0.out (HF.out.stay K0.out.1) (HE.out.stay K0.out.1) hz).mono ?_
  rintro e y1 ⟨rfl, hb⟩
  have K1 := Lib.hid (K0.out.stay hb)
  have T1 := Lib.hid (T0.out.stay hb)
  clear hb K0 T0
  have c0 := K1.out.c (b := y0.heap.size) (T := 25) (vs := C5.cs q) (by simp) 0 _ rfl
  have c1 := K1.out.c (b := y0.heap.size) (T := 25) (vs := C5.cs q) (by simp) 1 _ rfl
  have c2 := K1.out.c (b := y0.heap.size) (T := 25) (vs := C5.cs q) (by simp) 2 _ rfl
  have c3 := K1.out.c (b := y0.heap.size) (T := 25) (vs := C5.cs q) (by simp) 3 _ rfl
  have c4 := K1.out.c (b := y0.heap.size) (T := 25) (vs := C5.cs q) (by simp) 4 _ rfl
  go_wp2_with fail
  refine (specCheck_val (s := ⟨some ⟨g, 0, none⟩, l.length, c⟩) HV.out _ T1.out hz HZS.out).mono ?_
  rintro e y2 ⟨rfl, hb⟩
  have K2 := Lib.hid (K1.out.stay hb)
  have T2 := Lib.hid (T1.out.stay hb)
  clear hb K1 T1 c0 c1 c2 c3 c4
  have c0 := K2.out.c (b := y0.heap.size) (T := 25) (vs := C5.cs q) (by simp) 0 _ rfl
  have c1 := K2.out.c (b := y0.heap.size) (T := 25) (vs := C5.cs q) (by simp) 1 _ rfl
  have c2 := K2.out.c (b := y0.heap.size) (T := 25) (vs := C5.cs q) (by simp) 2 _ rfl
  have c3 := K2.out.c (b := y0.heap.size) (T := 25) (vs := C5.cs q) (by simp) 3 _ rfl
  have c4 := K2.out.c (b := y0.heap.size) (T := 25) (vs := C5.cs q) (by simp) 4 _ rfl
  have fin : ∀ y : World, Kn w [(y0.heap.size, 25, C5.cs q)] y → HasT y ⟨some ⟨g, 0, none⟩, l.length, c⟩ l → Calls Tryd.prog 8 #[.slice (some ⟨g, 0, none⟩) l.length c, .agg #[.int .i64 q.k, .int .i64 q.r, .int .i64 q.a, .int .i64 q.b, .int .i64 q.n]] y fun e y' => e = .returned (.int .i64 v) ∧ Below w.heap.size w y' := fun y hk ht =>
    (specCheck_val (s := ⟨some ⟨g, 0, none⟩, l.length, c⟩) HV.out _ ht hz HZS.out).mono fun e y' h => ⟨h.1, (hk.stay h.2).1⟩
  have FIN := Lib.hid fin
  clear fin
  obtain ⟨b1, hb1⟩ : ∃ b1, tabOk l = b1 := ⟨_, rfl⟩
  have HB1 := Lib.hid hb1
  clear hb1
  go_wp2_with fail
  refine (specTabOk_val' (s := ⟨some ⟨g, 0, none⟩, l.length, c⟩) HB1.out _ T2.out hz HZS.out).mono ?_
  rintro e y3 ⟨rfl, hb⟩
  have K3 := Lib.hid (K2.out.stay hb)
  have T3 := Lib.hid (T2.out.stay hb)
  clear hb K2 T2 c0 c1 c2 c3 c4
  have c0 := K3.out.c (b := y0.heap.size) (T := 25) (vs := C5.cs q) (by simp) 0 _ rfl
  have c1 := K3.out.c (b := y0.heap.size) (T := 25) (vs := C5.cs q) (by simp) 1 _ rfl
  have c2 := K3.out.c (b := y0.heap.size) (T := 25) (vs := C5.cs q) (by simp) 2 _ rfl
  have c3 := K3.out.c (b := y0.heap.size) (T := 25) (vs := C5.cs q) (by simp) 3 _ rfl
  have c4 := K3.out.c (b := y0.heap.size) (T := 25) (vs := C5.cs q) (by simp) 4 _ rfl
  cases b1
  · go_wp2_with fail
    refine (FIN.out _ K3.out T3.out).mono ?_
    rintro e y9 ⟨rfl, hb⟩
    have HB := Lib.hid hb
    clear hb
    go_wp2
    go_ret
    exact ⟨rfl, HB.out⟩
  obtain ⟨b2, hb2⟩ : ∃ b2, q.ok = b2 := ⟨_, rfl⟩
  have HB2 := Lib.hid hb2
  clear hb2
  go_wp2_with fail
  refine (specCallOk_val HB2.out _).mono ?_
  rintro e y4 ⟨rfl, hb⟩
  have K4 := Lib.hid (K3.out.stay hb)
  have T4 := Lib.hid (T3.out.stay hb)
  clear hb K3 T3 c0 c1 c2 c3 c4
  have c0 := K4.out.c (b := y0.heap.size) (T := 25) (vs := C5.cs q) (by simp) 0 _ rfl
  have c1 := K4.out.c (b := y0.heap.size) (T := 25) (vs := C5.cs q) (by simp) 1 _ rfl
  have c2 := K4.out.c (b := y0.heap.size) (T := 25) (vs := C5.cs q) (by simp) 2 _ rfl
  have c3 := K4.out.c (b := y0.heap.size) (T := 25) (vs := C5.cs q) (by simp) 3 _ rfl
  have c4 := K4.out.c (b := y0.heap.size) (T := 25) (vs := C5.cs q) (by simp) 4 _ rfl
  cases b2
  · go_wp2_with fail
    refine (FIN.out _ K4.out T4.out).mono ?_
    rintro e y9 ⟨rfl, hb⟩
    have HB := Lib.hid hb
    clear hb
    go_wp2
    go_ret
    exact ⟨rfl, HB.out⟩
  obtain ⟨k9, r1, r8, ca0, ca3⟩ := ok_k HB2.out
  by_cases hgt : (l.length : Int) < q.r
  · go_wp2_with fail
    refine (FIN.out _ K4.out T4.out).mono ?_
    rintro e y9 ⟨rfl, hb⟩
    have HB := Lib.hid hb
    clear hb
    go_wp2
    go_ret
    exact ⟨rfl, HB.out⟩
  obtain ⟨jr, er⟩ : ∃ jr : Nat, q.r = (jr : Int) + 1 := ⟨(q.r - 1).toNat, by omega⟩
  obtain ⟨ja, ea⟩ : ∃ ja : Nat, q.a = (ja : Int) := ⟨q.a.toNat, by omega⟩
  have hjr : jr < l.length := by omega
  obtain ⟨ck, cr, ca, cbb, cn⟩ := q
  dsimp only at *
  subst er ea
  have hja : ja < 4 := by omega
  have hjr' : (jr : Int) < (l.length : Int) := by omega
  have hja' : (ja : Int) < 4 := by omega
  have wr : wrap64 ((jr : Int) + 1 - 1) = (jr : Int) := by unfold wrap64; omega
  have wr2 : IntKind.i64.wrap (jr : Int) = (jr : Int) := IntWalk.i64_in _ (by omega)
  have wa : IntKind.i64.wrap (ja : Int) = (ja : Int) := IntWalk.i64_in _ (by omega)
  obtain ⟨ts, sx, W2, hts, hth, hels, hr1, ow1, bl1⟩ := copyT y4 ⟨some ⟨g, 0, none⟩, l.length, c⟩ l T4.out hz 23
  obtain ⟨t, htj, het⟩ := row_get hts hjr
  have hA := els_at hels htj
  have d0 : y4.cell? ⟨g, jr * 8, none⟩ = some (.int .i64 l[jr].kind) := by rw [← het]; exact hA 0 _ rfl
  have d5 : y4.cell? ⟨g, jr * 8 + 5, none⟩ = some (.slice t.2.1.a t.2.1.n t.2.1.c) := hA 5 _ rfl
  have HA := Lib.hid hA
  have HTH := Lib.hid hth
  have HTS := Lib.hid hts
  have HTJ := Lib.hid htj
  have HET := Lib.hid het
  have OW1 := Lib.hid ow1
  have BL1 := Lib.hid bl1
  clear hA hth hts htj het hels ow1 bl1
  by_cases hkd : l[jr].kind = 3
  case neg =>
    have hkd' : (l[jr].kind == 3) = false := by simpa using hkd
    generalize l[jr].kind = kd at *
    go_wp2_with fail
    refine (FIN.out _ K4.out T4.out).mono ?_
    rintro e y9 ⟨rfl, hb⟩
    have HB := Lib.hid hb
    clear hb
    go_wp2
    go_ret
    exact ⟨rfl, HB.out⟩
  have HKD := Lib.hid hkd
  rw [hkd] at d0
  clear hkd
  have HRUN := Lib.hid (show isRun l ((jr : Int) + 1) = true by
    have h1 : thAt l ((jr : Int) + 1) = l[jr] := thAt_of hjr (by omega)
    simp [isRun, h1, HKD.out, inR]; omega)
  go_upto_region 9 with (refine wpList_append_run rfl (.tmp 65) (.tmp 66) 23 rfl (.slice (some ⟨y4.heap.size, 0, none⟩) 0 0) (.slice (some ⟨g, 0, none⟩) l.length c) rfl rfl (.slice sx.a sx.n sx.c) W2 hr1 ?_)
  clear d0
  obtain ⟨V, hV⟩ : ∃ V, W2.drew = V := ⟨_, rfl⟩
  have bV : Below y4.heap.size y4 V := hV ▸ BL1.out.drew
  have owV : OwnF Tr.cs 8 36 y4.heap.size V sx ts := hV ▸ OW1.out
  obtain ⟨V1, hV1⟩ : ∃ V1, V.alloc (.cells #[] 38) = V1 := ⟨_, rfl⟩
  have zy := bV.size
  have b1 : Below y4.heap.size y4 V1 := hV1 ▸ bV.alloc zy _
  have b01 : Below V.heap.size V V1 := hV1 ▸ (Below.refl _ _).alloc (Nat.le_refl _) _
  have hRt : HasR y4 t.2.1 t.1.slots := (HTH.out t (List.mem_of_getElem? HTJ.out)).1
  have sl4 : t.1.slots.length = 4 := by
    rw [HET.out]
    have := (run_slots (show (tabOk l && isRun l ((jr : Int) + 1)) = true by rw [HB1.out, HRUN.out]; rfl)).1
    rwa [thAt_of hjr (show (jr : Int) + 1 - 1 = jr by omega)] at this
  obtain ⟨s2, W4, hr2, ow2, bl2, sz2, k2⟩ := copyR V.heap.size V1 ⟨some ⟨V.heap.size, 0, none⟩, 0, 0⟩ [] (hV1 ▸ OwnF.made R5.cs 5 38 V) b01.size (by simp) t.2.1 t.1.slots (hRt.stay b1) (by omega) 33
  rw [List.nil_append] at ow2
  have b4 : Below y4.heap.size y4 W4 := b1.trans (bl2.mono (by omega))
  have hKd := K4.out.1
  have eV1 := (K4.out.stay bV).c (b := y0.heap.size) (T := 25) (vs := C5.cs ⟨ck, (jr : Int) + 1, (ja : Int), cbb, cn⟩) (by simp) 1 _ rfl
  have eA1 := (K4.out.stay b1).c (b := y0.heap.size) (T := 25) (vs := C5.cs ⟨ck, (jr : Int) + 1, (ja : Int), cbb, cn⟩) (by simp) 1 _ rfl
  have eB1 := (K4.out.stay b4).c (b := y0.heap.size) (T := 25) (vs := C5.cs ⟨ck, (jr : Int) + 1, (ja : Int), cbb, cn⟩) (by simp) 1 _ rfl
  have dV5 := stayCell d5 bV
  have dA5 := stayCell d5 b1
  have dB5 := stayCell d5 b4
  obtain ⟨gx, curx, hsx, hgx, bx, -⟩ := owV.form (by have := congrArg List.length HTS.out; simp at this; omega)
  have hsn : sx.n = l.length := by rw [owV.1, ← HTS.out]; simp
  obtain ⟨sxa, sxn, sxc⟩ := sx
  dsimp only at hsx hsn
  subst hsx hsn
  have ow4 : OwnF Tr.cs 8 36 y4.heap.size W4 ⟨some ⟨gx, 0, none⟩, l.length, sxc⟩ ts := owV.keep fun b cs hb _ kx => k2 b _ cs (by decide) (hV1 ▸ kx.past _)
  have x5 := ow4.at szT rfl HTJ.out 5 _ rfl
  have fx5 := ow4.thaw rfl (jr * 8 + 5)
  have HOW4 := Lib.hid ow4
  have HOW2 := Lib.hid ow2
  have HB4 := Lib.hid b4
  have HSL := Lib.hid sl4
  clear ow4 ow2 b4 sl4 owV hRt k2 bl2 sz2 b1 b01 bV zy hKd bx
  obtain ⟨Y5, hY5⟩ : ∃ Y5, W4.setCell ⟨gx, jr * 8 + 5, none⟩ (.slice s2.a s2.n s2.c) = Y5 := ⟨_, rfl⟩
  go_cut [] (fun wx => wx = Y5)
  case first =>
    go_region_law (first | refine step_append_run rfl (.tmp 72) (.tmp 79) 33 rfl (.slice (some ⟨V.heap.size, 0, none⟩) 0 0) (.slice t.2.1.a t.2.1.n t.2.1.c) (by simp [Act.eval, Act.put]) (by simp [Act.eval, Act.put]) (.slice s2.a s2.n s2.c) W4 hr2 ?_)
    all_goals
      go_wp2_with fail
      go_meet
      first | rfl | exact hY5
  case rest =>
    subst hcut
    have ow5 : OwnF Tr.cs 8 36 y4.heap.size wc ⟨some ⟨gx, 0, none⟩, l.length, sxc⟩ (ts.set jr (t.1, s2, t.2.2)) := hY5 ▸ HOW4.out.cell szT rfl HTJ.out (t.1, s2, t.2.2) 5 (by decide) _ rfl
    have row5 : OwnR y4.heap.size wc s2 t.1.slots := by
      rw [← hY5]
      have hx := HOW4.out.blk (b := gx) (o := 0) rfl
      obtain ⟨-, -, -, cur, bxx⟩ := hx
      exact ((HOW2.out.row (Tp := TyR) (.inl rfl)).less (by have := BL1.out.size; rw [← hV]; exact this)).keep fun b T cs _ hT _ _ kx => kx.other (Box.ne kx bxx hT.neT) _
    have b5 : Below y4.heap.size y4 wc := hY5 ▸ HB4.out.setCell (p := ⟨gx, jr * 8 + 5, none⟩) hgx _
    obtain ⟨V6, hV6⟩ : ∃ V6, wc.drew = V6 := ⟨_, rfl⟩
    have ow6 : OwnF Tr.cs 8 36 y4.heap.size V6 ⟨some ⟨gx, 0, none⟩, l.length, sxc⟩ (ts.set jr (t.1, s2, t.2.2)) := hV6 ▸ ow5
    have row6 : OwnR y4.heap.size V6 s2 t.1.slots := hV6 ▸ row5
    have b6 : Below y4.heap.size y4 V6 := hV6 ▸ b5.drew
    have hs4 := HSL.out
    have hjt4 : ja < t.1.slots.length := by omega
    obtain ⟨b2, TB, cur2, hTB, e2, hb2, bx2, -⟩ := row6.form (fun e => by rw [e] at hs4; simp at hs4)
    have n2 : s2.n = 4 := by rw [row6.1]; exact hs4
    obtain ⟨s2a, s2n, s2c⟩ := s2
    dsimp only at e2 n2
    subst e2 n2
    have hjt : jr < ts.length := by have := congrArg List.length HTS.out; simp at this; omega
    have xx5 := ow6.at szT rfl (show (ts.set jr (t.1, ⟨some ⟨b2, 0, none⟩, 4, s2c⟩, t.2.2))[jr]? = some (t.1, ⟨some ⟨b2, 0, none⟩, 4, s2c⟩, t.2.2) by simp [hjt]) 5 _ rfl
    have ra := row6.at szR rfl (List.getElem?_eq_getElem hjt4)
    have ra0 := ra 0 _ rfl
    rw [Nat.add_zero] at ra0
    have ra1 := ra 1 _ rfl
    have ra2 := ra 2 _ rfl
    have ra3 := ra 3 _ rfl
    have ra4 := ra 4 _ rfl
    have rf0 := bx2.thaw (ja * 5)
    have rf1 := bx2.thaw (ja * 5 + 1)
    have rf2 := bx2.thaw (ja * 5 + 2)
    have rf3 := bx2.thaw (ja * 5 + 3)
    have rf4 := bx2.thaw (ja * 5 + 4)
    have K6 := Lib.hid (K4.out.stay b6)
    have m1 := K6.out.c (b := y0.heap.size) (T := 25) (vs := C5.cs ⟨ck, (jr : Int) + 1, (ja : Int), cbb, cn⟩) (by simp) 1 _ rfl
    have m2 := K6.out.c (b := y0.heap.size) (T := 25) (vs := C5.cs ⟨ck, (jr : Int) + 1, (ja : Int), cbb, cn⟩) (by simp) 2 _ rfl
    have hRt6 : HasR V6 t.2.1 t.1.slots := (HTH.out t (List.mem_of_getElem? HTJ.out)).1.stay b6
    obtain ⟨rb, ro, hrb, hrat⟩ := hRt6.at hjt4
    have hrn : t.2.1.n = 4 := by rw [hRt6.len]; exact hs4
    have d56 := stayCell d5 b6
    have HRV := Lib.hid (show t.1.slots[ja] = (l[jr]).slots[ja]'(by rw [← HET.out]; exact hjt4) by simp [HET.out])
    obtain ⟨r, hr⟩ : ∃ r, t.1.slots[ja] = r := ⟨_, rfl⟩
    rw [hr] at hrat HRV
    obtain ⟨tc, tx, tq⟩ := t
    obtain ⟨txa, txn, txc⟩ := tx
    dsimp only at hrb hrn d56 hrat hjt4 hs4 hr
    subst hrb hrn
    rw [hr] at ra
    clear ra0 ra1 ra2 ra3 ra4
    subst hV6
    -- what lay there at y4 lies there still
    have hRt4 : HasR y4 ⟨some ⟨rb, ro, none⟩, 4, txc⟩ tc.slots := (HTH.out _ (List.mem_of_getElem? HTJ.out)).1
    obtain ⟨rb', ro', er', hr4⟩ := hRt4.at hjt4
    simp only [Option.some.injEq, Addr.mk.injEq] at er'
    obtain ⟨rfl, rfl, -⟩ := er'
    rw [hr] at hr4
    obtain ⟨-, -, -, curG, bG⟩ := ow6.blk (b := gx) (o := 0) rfl
    have hgb : gx ≠ b2 := fun e => by subst e; exact (Box.ne bG bx2 hTB.neT.symm) rfl
    have fx0 : ∀ y, Kn y4 [(gx, 36, curG)] y → Kn y4 [(gx, 36, curG)] y ∧ y.cell? ⟨y0.heap.size, 1, none⟩ = some (.int .i64 ((jr : Int) + 1)) ∧ y.cell? ⟨y0.heap.size, 2, none⟩ = some (.int .i64 (ja : Int)) ∧ y.cell? ⟨gx, jr * 8 + 5, none⟩ = some (.slice (some ⟨b2, 0, none⟩) 4 s2c) ∧ y.cell? ⟨g, jr * 8 + 5, none⟩ = some (.slice (some ⟨rb, ro, none⟩) 4 txc) ∧ y.cell? ⟨rb, ro + ja * 5, none⟩ = some (.int .i64 r.t) ∧ y.cell? ⟨rb, ro + ja * 5 + 1, none⟩ = some (.int .i64 r.v) ∧ y.cell? ⟨rb, ro + ja * 5 + 2, none⟩ = some (.bool r.r) ∧ y.cell? ⟨rb, ro + ja * 5 + 3, none⟩ = some (.bool r.w) ∧ y.cell? ⟨rb, ro + ja * 5 + 4, none⟩ = some (.bool r.k) := fun y hk => by
      have hb := hk.1
      refine ⟨hk, stayCell (K4.out.c (b := y0.heap.size) (T := 25) (vs := C5.cs ⟨ck, (jr : Int) + 1, (ja : Int), cbb, cn⟩) (by simp) 1 _ rfl) hb, stayCell (K4.out.c (b := y0.heap.size) (T := 25) (vs := C5.cs ⟨ck, (jr : Int) + 1, (ja : Int), cbb, cn⟩) (by simp) 2 _ rfl) hb, ?_, stayCell d5 hb, stayCell (hr4 0 _ rfl) hb, stayCell (hr4 1 _ rfl) hb, stayCell (hr4 2 _ rfl) hb, stayCell (hr4 3 _ rfl) hb, stayCell (hr4 4 _ rfl) hb⟩
      have hbx := hk.box (b := gx) (T := 36) (vs := curG) (by simp)
      have e1 := hbx.at (jr * 8 + 5)
      have e2 := bG.at (jr * 8 + 5)
      rw [e1, ← e2]
      exact xx5
    have qf0 : ∀ y, Kn y4 [(b2, TB, cur2), (gx, 36, curG)] y → y.cell? ⟨b2, ja * 5, none⟩ = some (.int .i64 r.t) ∧ y.cell? ⟨b2, ja * 5 + 1, none⟩ = some (.int .i64 r.v) ∧ y.cell? ⟨b2, ja * 5 + 2, none⟩ = some (.bool r.r) ∧ y.cell? ⟨b2, ja * 5 + 3, none⟩ = some (.bool r.w) ∧ y.cell? ⟨b2, ja * 5 + 4, none⟩ = some (.bool r.k) ∧ y.frozen? ⟨b2, ja * 5, none⟩ = false ∧ y.frozen? ⟨b2, ja * 5 + 1, none⟩ = false ∧ y.frozen? ⟨b2, ja * 5 + 2, none⟩ = false ∧ y.frozen? ⟨b2, ja * 5 + 3, none⟩ = false ∧ y.frozen? ⟨b2, ja * 5 + 4, none⟩ = false := fun y hk => by
      have hbx := hk.box (b := b2) (T := TB) (vs := cur2) (by simp)
      have cc : ∀ (o : Nat) (u : Value), wc.drew.cell? ⟨b2, o, none⟩ = some u → y.cell? ⟨b2, o, none⟩ = some u := fun o u h => by
        have e1 := hbx.at o
        have e2 := (show Box wc.drew b2 TB cur2 from bx2).at o
        rw [e1, ← e2]; exact h
      exact ⟨cc _ _ (ra 0 _ rfl), cc _ _ (ra 1 _ rfl), cc _ _ (ra 2 _ rfl), cc _ _ (ra 3 _ rfl), cc _ _ (ra 4 _ rfl), hbx.thaw _, hbx.thaw _, hbx.thaw _, hbx.thaw _, hbx.thaw _⟩
    have FX := Lib.hid fx0
    have QF := Lib.hid qf0
    have k00 : Kn y4 [(b2, TB, cur2), (gx, 36, curG)] wc.drew := ⟨b6, fun t ht => by
      simp at ht
      rcases ht with rfl | rfl
      · exact bx2
      · exact bG⟩
    have hD : Kn y4 [(b2, TB, cur2), (gx, 36, curG)] wc.drew := k00
    have hB : Kn y4 [(gx, 36, curG)] wc.drew := k00.less (by simp)
    have hB0 : Kn y4 [(gx, 36, curG)] wc := ⟨b5, fun t ht => by
      simp at ht
      subst ht
      exact (show Box wc gx 36 curG from bG)⟩
    have hO : Hid (OwnF Tr.cs 8 36 y4.heap.size wc.drew ⟨some ⟨gx, 0, none⟩, l.length, sxc⟩ (ts.set jr (tc, ⟨some ⟨b2, 0, none⟩, 4, s2c⟩, tq))) := Lib.hid ow6
    have hQ : Hid (OwnR y4.heap.size wc.drew ⟨some ⟨b2, 0, none⟩, 4, s2c⟩ tc.slots) := Lib.hid row6
    have hL1 : ∀ t ∈ [(gx, (36 : TypeId), curG)], t.1 ≠ b2 := fun t ht => by (simp at ht; subst ht; exact hgb)
    have HOW6 := Lib.hid ow6
    have HROW6 := Lib.hid row6
    have HB6 := Lib.hid b6
    have HRR := Lib.hid hr
    have HJ4 := Lib.hid hjt4
    clear fx0 qf0 k00 ow6 row6 b6 ow5 row5 b5 bx2 bG ra hs4 hY5 hr2 eV1 eA1 eB1 dV5 dA5 dB5 x5 fx5 hV1 T4 BL1 OW1 HA FIN HOW4 HOW2 HB4 hr hrat hRt6 hRt4 hr4 d56 d5 xx5 m1 m2 c0 c1 c2 c3 c4 rf0 rf1 rf2 rf3 rf4
    go_upto_region 10 with fail
    go_cut [] (fun wx => ∃ (y : World) (a b c : Bool), Kn y4 [(b2, TB, cur2), (gx, 36, curG)] y ∧ OwnF Tr.cs 8 36 y4.heap.size y ⟨some ⟨gx, 0, none⟩, l.length, sxc⟩ (ts.set jr (tc, ⟨some ⟨b2, 0, none⟩, 4, s2c⟩, tq)) ∧ OwnR y4.heap.size y ⟨some ⟨b2, 0, none⟩, 4, s2c⟩ tc.slots ∧ wx = set5 y b2 (ja * 5) (lessR r a b c))
    case first =>
      go_region_held3 (fun y => Kn y4 [(gx, 36, curG)] y ∧ y.cell? ⟨y0.heap.size, 1, none⟩ = some (.int .i64 ((jr : Int) + 1)) ∧ y.cell? ⟨y0.heap.size, 2, none⟩ = some (.int .i64 (ja : Int)) ∧ y.cell? ⟨gx, jr * 8 + 5, none⟩ = some (.slice (some ⟨b2, 0, none⟩) 4 s2c) ∧ y.cell? ⟨g, jr * 8 + 5, none⟩ = some (.slice (some ⟨rb, ro, none⟩) 4 txc) ∧ y.cell? ⟨rb, ro + ja * 5, none⟩ = some (.int .i64 r.t) ∧ y.cell? ⟨rb, ro + ja * 5 + 1, none⟩ = some (.int .i64 r.v) ∧ y.cell? ⟨rb, ro + ja * 5 + 2, none⟩ = some (.bool r.r) ∧ y.cell? ⟨rb, ro + ja * 5 + 3, none⟩ = some (.bool r.w) ∧ y.cell? ⟨rb, ro + ja * 5 + 4, none⟩ = some (.bool r.k))
        (first | with_reducible exact FX.out _ hB | with_reducible exact FX.out _ hB0 | with_reducible exact FX.out _ (kn_five hB hb2 hL1 _ _ _ _ _))
        (first | (go_at_call 11; refine (implLess_any r.t r.v r.r r.w r.k _ _ _ _).mono ?_; rintro e y5 ⟨rfl, hb⟩; have hB := hB.stay hb; have hD := hD.stay hb; have hO := Lib.hid (hO.out.stay hb); have hQ := Lib.hid (hQ.out.stay hb); obtain ⟨i0, i1, i2, i3, i4, i5, i6, i7, i8, i9⟩ := QF.out _ hD; clear hb))
      all_goals
        go_wp2_with fail
        go_meet
        exact ⟨_, _, _, _, hD, hO.out, hQ.out, rfl⟩
    case rest =>
      obtain ⟨y, ba, bb, bc, hK, oY, qY, hwc⟩ := hcut
      obtain ⟨hTF, bF⟩ := slot_stored HTS.out HTH.out HTJ.out hjr oY qY rfl HJ4.out (Nat.le_refl _) hK.1 (lessR r ba bb bc)
      rw [← hwc] at hTF bF
      have HTF := Lib.hid hTF
      have KF6 := Lib.hid (K4.out.stay bF)
      obtain ⟨l', hl'⟩ : ∃ l', l.set jr { l[jr] with slots := (l[jr]).slots.set ja (lessR r ba bb bc) } = l' := ⟨_, rfl⟩
      rw [hl'] at HTF
      obtain ⟨v', hv'⟩ : ∃ v', chkV l' ⟨ck, (jr : Int) + 1, (ja : Int), cbb, cn⟩ = v' := ⟨_, rfl⟩
      have HVP := Lib.hid hv'
      have HCL := Lib.hid (show v' = 0 → v = 0 from fun h0 => by
        rw [← HV.out]
        have hja4 : ja < l[jr].slots.length := by
          have h4 := HJ4.out
          have h5 := HET.out
          dsimp only at h5
          rw [← h5]; exact h4
        refine chk_less (x := { l[jr] with slots := (l[jr]).slots.set ja (lessR r ba bb bc) }) (a := ba) (b := bb) (c := bc) HB1.out HRUN.out HB2.out hjr hja4 rfl rfl rfl rfl ?_ ?_
        · dsimp only; rw [HRV.out]
        · rw [hl', hv', h0])
      have HZ6 := Lib.hid (show l'.length ≤ 1048576 by rw [← hl']; simpa using hz)
      clear hTF bF hl' hv' hwc oY qY hK hB hB0 hD hO hQ hL1 HOW6 HROW6 HB6
      have p0 := KF6.out.c (b := y0.heap.size) (T := 25) (vs := C5.cs ⟨ck, (jr : Int) + 1, (ja : Int), cbb, cn⟩) (by simp) 0 _ rfl
      have p1 := KF6.out.c (b := y0.heap.size) (T := 25) (vs := C5.cs ⟨ck, (jr : Int) + 1, (ja : Int), cbb, cn⟩) (by simp) 1 _ rfl
      have p2 := KF6.out.c (b := y0.heap.size) (T := 25) (vs := C5.cs ⟨ck, (jr : Int) + 1, (ja : Int), cbb, cn⟩) (by simp) 2 _ rfl
      have p3 := KF6.out.c (b := y0.heap.size) (T := 25) (vs := C5.cs ⟨ck, (jr : Int) + 1, (ja : Int), cbb, cn⟩) (by simp) 3 _ rfl
      have p4 := KF6.out.c (b := y0.heap.size) (T := 25) (vs := C5.cs ⟨ck, (jr : Int) + 1, (ja : Int), cbb, cn⟩) (by simp) 4 _ rfl
      go_wp2_with fail
      refine (implCheck_val (s := ⟨some ⟨gx, 0, none⟩, l.length, sxc⟩) (c := ⟨ck, (jr : Int) + 1, (ja : Int), cbb, cn⟩) HVP.out _ HTF.out (HF.out.stay KF6.out.1) (HE.out.stay KF6.out.1) HZ6.out).mono ?_
      rintro e y9 ⟨rfl, hb⟩
      have K9 := Lib.hid (KF6.out.stay hb)
      clear hb
      by_cases hv0 : v' = 0
      · have hv1 := HCL.out hv0
        subst hv0 hv1
        go_wp2
        go_ret
        exact ⟨rfl, K9.out.1⟩
      · have hv0' : (v' == 0) = false := by simpa using hv0
        go_wp2
        go_ret
        exact ⟨rfl, K9.out.1⟩
end Go.Proofs.YtjbhcbjokeaagaaDoor
