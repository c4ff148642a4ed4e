/-
  A drawn table: whatever the code, one comes that owns its things.
-/
import Derived.Test.YtpahahonopiblaaDoorThM
import Derived.Test.YtpahahonopiblaaDoorDrawTh
import Derived.Deep.CutRange
namespace Go.Proofs.YtpahahonopiblaaDoor
open Go.RowKit
set_option maxRecDepth 100000
set_option linter.unusedVariables false

/-- What a drawn table leaves. -/
def TabPost (r : Nat) (a : Option Addr) (len cap : Nat) (zs : List Int) (p : Nat) (w : World) (e : Ending) (w' : World) : Prop :=
  ∃ (g c : Nat) (ts : List Tr), e = .returned (.slice (some ⟨g, 0, none⟩) ts.length c) ∧ TaO w.heap.size w' (.slice (some ⟨g, 0, none⟩) ts.length c) ts ∧ 3 ≤ ts.length ∧ ts.length ≤ 8 ∧ ∃ p', p' ≤ p + 3000 ∧ Rd w' r a len cap zs p' ∧ Grew r w w'
theorem i64in (n : Int) (h : -9223372036854775808 ≤ n ∧ n ≤ 9223372036854775807) : IntKind.i64.wrap n = n := by rw [IntKind.wrap_i64]; omega
theorem putRT (t v : Int) (r wr k : Bool) (z : Int) : (rgtC t v r wr k).setIfInBounds 0 (.int .i64 z) = rgtC z v r wr k := by simp
theorem putRV (t v : Int) (r wr k : Bool) (z : Int) : (rgtC t v r wr k).setIfInBounds 1 (.int .i64 z) = rgtC t z r wr k := by simp
theorem six (m : Nat) (h : m < 6) : ∃ z : Int, (#[.int .i64 1, .int .i64 2, .int .i64 2, .int .i64 3, .int .i64 4, .int .i64 5] : Array Value)[m]? = some (.int .i64 z) := by
  match m, h with
  | 0, _ => exact ⟨_, rfl⟩
  | 1, _ => exact ⟨_, rfl⟩
  | 2, _ => exact ⟨_, rfl⟩
  | 3, _ => exact ⟨_, rfl⟩
  | 4, _ => exact ⟨_, rfl⟩
  | 5, _ => exact ⟨_, rfl⟩
theorem own_three (w : World) : (w.alloc (.cells #[.int .i64 1, .int .i64 3, .int .i64 3] 3)).ownsRow w.heap.size 3 1 (.slice (some ⟨w.heap.size, 0, none⟩) 3 3) 3 (([1, 3, 3] : List Int).map fun z => Value.int .i64 z) :=
  ⟨rfl, .inr ⟨w.heap.size, 3, #[.int .i64 1, .int .i64 3, .int .i64 3], rfl, Nat.le_refl _, Box.fresh w 3 _, Nat.le_refl _, by simp [maxLen], rfl, rfl⟩⟩
theorem own_none (n0 : Nat) (W : World) (hn : n0 ≤ W.heap.size) : TaO n0 (W.alloc (.cells #[] 37)) (.slice (some ⟨W.heap.size, 0, none⟩) 0 0) [] :=
  ⟨⟨rfl, .inr ⟨W.heap.size, 0, #[], rfl, hn, Box.fresh W 37 _, Nat.le_refl _, by simp [maxLen], rfl, rfl⟩⟩, fun t ht => by cases ht⟩

set_option maxHeartbeats 16000000 in
theorem l71Table_any (r : Nat) (a : Option Addr) (len cap : Nat) (zs : List Int) (p : Nat) (w : World) (hR : Rd w r a len cap zs p) (hp : p ≤ 400000) :
    Calls Tryd.prog 53 #[.pointer (some ⟨r, 0, none⟩)] w (TabPost r a len cap zs p w) := by
  have S0 := Lib.hid ((St.start hR).past (.cells #[.int .i64 1, .int .i64 3, .int .i64 3] 3))
  have O0 := Lib.hid (own_three w)
  have hrw := S0.out.2.2.1
  clear hR
  unfold TabPost
  go_enter Tryd.func53, Tryd.ntmps53
  go_wp2_with fail
  refine (pick_any _ a _ cap zs p 6 _ S0.out.2.1 (by omega) (by decide) (by decide)).mono ?_
  rintro e w2 ⟨n1, n1a, n1b, rfl, r1, g1, -⟩
  have S1 := Lib.hid (S0.out.on g1 r1)
  have O1 := Lib.hid (own_keep O0.out (fun b cs hb bx => bx.grew g1 (by omega)))
  clear r1 g1 S0 O0
  obtain ⟨n, rfl⟩ : ∃ n : Nat, n1 = n := ⟨n1.toNat, by omega⟩
  go_wp2
  go_loopw [3, 4] (fun v i wr => ∃ (k : Nat) (ks : List Int) (pp g c : Nat), v = .slice (some ⟨g, 0, none⟩) ks.length c ∧ i = .int .i64 k ∧ k + ks.length ≤ 8 ∧ 3 ≤ ks.length ∧ pp + k ≤ p + 7 ∧ St w r a len cap zs pp [] wr ∧ wr.ownsRow w.heap.size 3 1 (.slice (some ⟨g, 0, none⟩) ks.length c) ks.length (ks.map fun z => Value.int .i64 z)) (fun _ i _ => (intOf i).toNat)
  case atStart => exact ⟨n, [1, 3, 3], p + 1, w.heap.size, 3, rfl, rfl, by simp; omega, by simp, by omega, S1.out, O1.out⟩
  case round =>
    obtain ⟨k, ks, pp, g, c, rfl, rfl, hkl, h3, hpp, sK, oK⟩ := hrel
    have SK := Lib.hid sK
    have OK := Lib.hid oK
    clear sK oK
    by_cases hlt : 0 < k
    · have hlt' : (0 : Int) < (k : Int) := by omega
      have S2 := Lib.hid (SK.out.new 3 #[.int .i64 1, .int .i64 2, .int .i64 2, .int .i64 3, .int .i64 4, .int .i64 5])
      have O2 := Lib.hid (own_keep OK.out (fun b cs hb bx => bx.past (.cells #[.int .i64 1, .int .i64 2, .int .i64 2, .int .i64 3, .int .i64 4, .int .i64 5] 3)))
      go_wp2_with fail
      refine (pick_any _ a _ cap zs pp 6 _ S2.out.2.1 (by omega) (by decide) (by decide)).mono ?_
      rintro e w4 ⟨m1, m1a, m1b, rfl, r4, g4, -⟩
      obtain ⟨m, rfl⟩ : ∃ m : Nat, m1 = m := ⟨m1.toNat, by omega⟩
      have S3 := Lib.hid (S2.out.on g4 r4)
      have O3 := Lib.hid (own_keep O2.out (fun b cs hb bx => bx.grew g4 (by omega)))
      clear r4 g4 S2 O2
      obtain ⟨z, hz⟩ := six m (by omega)
      have cz := S3.out.1.c (b := wr.heap.size) (T := 3) (vs := #[.int .i64 1, .int .i64 2, .int .i64 2, .int .i64 3, .int .i64 4, .int .i64 5]) (by simp) m _ hz
      have hm6 : (m : Int) < 6 := by omega
      obtain ⟨g2, c2, w5, hap, o5, kp5, bl5, sz5⟩ := append_i w.heap.size w4 _ ks.length _ O3.out (by omega) S3.out.1.1.size z 35
      have S4 := Lib.hid ((S3.out.less (L' := []) (by simp)).own bl5 (by simp))
      have O5 := Lib.hid o5
      clear o5 kp5 bl5 hz S3 O3
      go_wp2_with (refine wpList_append_run rfl (.tmp 18) (.tmp 24) 35 rfl (.slice (some ⟨g, 0, none⟩) ks.length c) (.slice (some ⟨w4.heap.size, 0, none⟩) 1 1) rfl rfl (.slice (some ⟨g2, 0, none⟩) (ks.length + 1) c2) w5 hap ?_)
      go_roundw
      case rel =>
        refine ⟨k - 1, ks ++ [z], pp + 1, g2, c2, by simp, ?_, by simp; omega, by simp; omega, by omega, S4.out, by simpa using O5.out⟩
        first | rfl | (simp; omega) | (go_num; omega)
      case measure => simp [intOf]; omega
    · have hlt' : ¬ (0 : Int) < (k : Int) := by omega
      have hk8 : ks.length ≤ 8 := by omega
      have hpp7 : pp ≤ p + 7 := by omega
      have S2 := Lib.hid (SK.out.past (.cells #[] 37))
      have O2 := Lib.hid (own_keep OK.out (fun b cs hb bx => bx.past (.cells #[] 37)))
      have T2 := Lib.hid (own_none w.heap.size wr SK.out.1.1.size)
      clear hkl hpp SK OK hlt
      go_wp2
      clear hlt'
      go_loopw [5, 6] (fun v i wr2 => ∃ (m : Nat) (ts : List Tr) (p2 g2 c2 : Nat), v = .slice (some ⟨g2, 0, none⟩) ts.length c2 ∧ m ≤ ks.length ∧ i = .int .i64 m ∧ ts.length = m ∧ p2 ≤ pp + 20 * m ∧ St w r a len cap zs p2 [] wr2 ∧ wr2.ownsRow w.heap.size 3 1 (.slice (some ⟨g, 0, none⟩) ks.length c) ks.length (ks.map fun z => Value.int .i64 z) ∧ TaO w.heap.size wr2 (.slice (some ⟨g2, 0, none⟩) ts.length c2) ts) (fun _ i _ => ks.length - (intOf i).toNat)
      case atStart => exact ⟨0, [], pp, _, 0, rfl, by omega, rfl, rfl, by omega, S2.out, O2.out, T2.out⟩
      case round =>
        obtain ⟨m, ts, p2, g2, c2, rfl, hm, rfl, htm, hp2, sK, oK, tK⟩ := hrel
        subst htm
        have SK := Lib.hid sK
        have OK := Lib.hid oK
        have TK := Lib.hid tK
        clear sK oK tK S2 O2 T2
        by_cases hlt : ts.length < ks.length
        · have hlt' : (ts.length : Int) < (ks.length : Int) := by omega
          have ck := own_int OK.out hlt
          obtain ⟨kd, hkd⟩ : ∃ kd, ks[ts.length] = kd := ⟨_, rfl⟩
          rw [hkd] at ck
          clear hkd
          have key : ∀ tt : Int, Calls Tryd.prog 95 #[.pointer (some ⟨r, 0, none⟩), .int .i64 kd, .int .i64 tt] wr (ThPost r a len cap zs p2 wr) := fun tt => l71Thing_any r a len cap zs p2 kd tt wr SK.out.2.1 (by omega)
          have KEY := Lib.hid key
          clear key
          by_cases h5 : kd = 5
          all_goals
            first | subst h5 | (have h5' : (kd == 5) = false := by simpa using h5)
            go_wp2_with fail
            refine (KEY.out _).mono ?_
            rintro e y ⟨x, s, q, rfl, th, hql, -, -, p3, hp3, r3, g3⟩
            have hzw := SK.out.1.1.size
            have S3 := Lib.hid (SK.out.on g3 r3)
            have O3 := Lib.hid (own_keep OK.out (fun b cs hb bx => bx.grew g3 (by omega)))
            have T3 := Lib.hid (TK.out.grew hrw g3)
            have X3 := Lib.hid (th.less hzw)
            clear th r3 g3 SK OK TK KEY ck
            obtain ⟨g3, c3, w5, hap, t5, kp5, bl5, sz5⟩ := append_t w.heap.size y _ ts T3.out (by omega) S3.out.1.1.size x s q X3.out hql 25
            have S4 := Lib.hid (S3.out.own bl5 (by simp))
            have O5 := Lib.hid (own_keep O3.out (fun b cs hb bx => kp5 b _ cs (by decide) bx))
            have T5 := Lib.hid t5
            clear t5 kp5 bl5 S3 O3 T3 X3
            go_wp2_with (refine wpList_append_run rfl (.tmp 38) (.tmp 46) 25 rfl (.slice (some ⟨g2, 0, none⟩) ts.length c2) (.slice (some ⟨y.heap.size, 0, none⟩) 1 1) rfl rfl (.slice (some ⟨g3, 0, none⟩) (ts.length + 1) c3) w5 hap ?_)
            go_roundw
            case rel =>
              refine ⟨ts.length + 1, ts ++ [(x, s, q)], p3, g3, c3, by simp, by omega, by go_num, by simp, by omega, S4.out, O5.out, by simpa using T5.out⟩
            case measure => simp [intOf]; omega
        · have hlt' : ¬ (ts.length : Int) < (ks.length : Int) := by omega
          have h38 : 3 ≤ ts.length ∧ ts.length ≤ 8 := by omega
          have hp2' : p2 ≤ p + 167 := by omega
          clear hlt hm OK hp2 hpp7 hk8 h3
          obtain ⟨N, hN⟩ : ∃ N, ts.length = N := ⟨_, rfl⟩
          rw [hN] at TK h38 hlt' ⊢
          have HN := Lib.hid hN
          have hN3 := h38.1
          have hN8 := h38.2
          clear hN h38
          go_wp2
          clear hlt'
          go_loopw [8] (fun i wr3 => ∃ (m : Nat) (us : List Tr) (p3 : Nat), m ≤ N ∧ i = .int .i64 m ∧ us.length = N ∧ p3 ≤ p2 + 200 * m ∧ St w r a len cap zs p3 [] wr3 ∧ TaO w.heap.size wr3 (.slice (some ⟨g2, 0, none⟩) N c2) us) (fun i _ => N - (intOf i).toNat)
          case atStart => exact ⟨0, ts, p2, by omega, rfl, HN.out, by omega, SK.out, TK.out⟩
          case round =>
            obtain ⟨m, us, p3, hm, rfl, hul, hp3, sK, tK⟩ := hrel
            have SL := Lib.hid sK
            have TL := Lib.hid tK
            have HU := Lib.hid hul
            clear sK tK hul SK TK
            by_cases hlt : m < N
            · have hlt' : (m : Int) < (N : Int) := by omega
              go_wp2
              go_loopw [9] (fun i wr4 => ∃ (j : Nat) (vs : List Tr) (p4 : Nat), j ≤ 4 ∧ i = .int .i64 j ∧ vs.length = N ∧ p4 ≤ p3 + 40 * j ∧ St w r a len cap zs p4 [] wr4 ∧ TaO w.heap.size wr4 (.slice (some ⟨g2, 0, none⟩) N c2) vs) (fun i _ => 4 - (intOf i).toNat)
              case atStart => exact ⟨0, us, p3, by omega, rfl, HU.out, by omega, SL.out, TL.out⟩
              case round =>
                obtain ⟨j, vs, p4, hj, rfl, hvl, hp4, sK, tK⟩ := hrel
                have SM := Lib.hid sK
                have TM := Lib.hid tK
                have HV := Lib.hid hvl
                obtain ⟨t, ht⟩ : ∃ t, vs[m]? = some t := ⟨vs[m]'(by omega), List.getElem?_eq_getElem (by omega)⟩
                have HTT := Lib.hid ht
                have hat := tK.at ht
                have hth := (tK.2 t (List.mem_of_getElem? ht)).1
                have hgl := cell_lt (hat 0 _ rfl)
                have d5 : wr.cell? ⟨g2, m * 8 + 5, none⟩ = some (.slice t.2.1.a t.2.1.n t.2.1.c) := hat 5 _ rfl
                have HTH := Lib.hid hth
                clear sK tK hvl ht hat hth SL TL
                by_cases hjl : j < t.2.1.n
                · rcases HTH.out.1 with ⟨h0, -⟩ | ⟨b, a1, a2, a3, a4, hb, hse, bx, -⟩
                  · omega
                  have HSE := Lib.hid hse
                  rw [hse] at d5 hjl
                  have hj4 : j < 4 := hjl
                  have hjl' : (j : Int) < 4 := by omega
                  have BX := Lib.hid bx
                  clear bx hse hjl HTH
                  go_wp2_with fail
                  refine (l71Right_any _ a _ cap zs p4 _ SM.out.2.1 (by omega)).mono ?_
                  rintro e w4 ⟨tt, vv, rd, wt, kk, t0, t1, v0, v1, rfl, p5, hp5, r5, g5⟩
                  have S4 := Lib.hid (SM.out.on g5 r5)
                  have T4 := Lib.hid (TM.out.grew hrw g5)
                  have B4 := Lib.hid (BX.out.grew g5 (by omega))
                  obtain ⟨Y, hY⟩ : ∃ Y, w4.alloc (.cells (rgtC tt vv rd wt kk) 44) = Y := ⟨_, rfl⟩
                  have sq := (St.start r5).new 44 (rgtC tt vv rd wt kk)
                  rw [hY] at sq
                  have SQ := Lib.hid sq
                  clear sq r5 g5 SM TM BX d5
                  have c0 : Y.cell? ⟨w4.heap.size, 0, none⟩ = some (.int .i64 tt) := SQ.out.1.c (b := w4.heap.size) (T := 44) (vs := rgtC tt vv rd wt kk) (by simp) 0 _ rfl
                  go_upto_region 21 with fail
                  clear hY
                  go_cut [73] from 54 to 127 (fun s73 wx => ∃ (bb : Bool) (pp : Nat), s73 = .bool bb ∧ (bb = true → 0 < tt) ∧ pp ≤ p5 + 1 ∧ St w4 r a len cap zs pp [(w4.heap.size, 44, rgtC tt vv rd wt kk)] wx)
                  case first =>
                    by_cases h0 : 0 < tt
                    · go_wp2_with fail
                      refine (pick_any _ a _ cap zs p5 40 _ SQ.out.2.1 (by omega) (by decide) (by decide)).mono ?_
                      rintro e w6 ⟨n2, n2a, n2b, rfl, r6, g6, -⟩
                      have S6 := Lib.hid (SQ.out.on g6 r6)
                      clear r6 g6
                      go_wp2
                      all_goals
                        go_meet
                        exact ⟨_, p5 + 1, rfl, fun _ => h0, by omega, S6.out⟩
                    · go_wp2
                      all_goals
                        go_meet
                        exact ⟨_, p5, rfl, fun h => (by simp at h), by omega, SQ.out⟩
                  case rest =>
                  obtain ⟨bb, pp, rfl, hbb, hpp, sC⟩ := hcut
                  have SC := Lib.hid sC
                  clear sC SQ c0
                  go_upto_if 73 with fail
                  go_cut [] from 54 to 127 (fun wx => ∃ (x : R5) (pp : Nat), pp ≤ p5 + 3 ∧ St w4 r a len cap zs pp [(w4.heap.size, 44, x.cs)] wx)
                  case first =>
                    cases bb
                    · go_wp2
                      go_meet
                      exact ⟨⟨tt, vv, rd, wt, kk⟩, pp, by omega, SC.out⟩
                    have h0 := hbb rfl
                    have c0 := SC.out.1.c (b := w4.heap.size) (T := 44) (vs := rgtC tt vv rd wt kk) (by simp) 0 _ rfl
                    have hxl := (SC.out.1.box (b := w4.heap.size) (T := 44) (vs := rgtC tt vv rd wt kk) (by simp)).lt
                    go_upto_region 22 with fail
                    go_cut [] from 54 to 127 (fun wx => ∃ (u : Int) (p6 : Nat), 1 ≤ u ∧ u ≤ N ∧ p6 ≤ p5 + 2 ∧ St w4 r a len cap zs p6 [(w4.heap.size, 44, rgtC u vv rd wt kk)] wx)
                    case first =>
                      have hNz : ¬ (N : Int) = 0 := by omega
                      have hNz' : ((N : Int) == 0) = false := by simp; omega
                      go_region_with (go_at_call 54; refine (pick_any _ a _ cap zs pp 8 _ SC.out.drew.2.1 (by omega) (by decide) (by decide)).mono ?_; rintro e w7 ⟨n3, n3a, n3b, rfl, r7, g7, -⟩; have S7 := Lib.hid (SC.out.drew.on g7 r7); clear r7 g7; have c0' := S7.out.1.c (b := w4.heap.size) (T := 44) (vs := rgtC tt vv rd wt kk) (by simp) 0 _ rfl; have f0' := S7.out.1.f (b := w4.heap.size) (T := 44) (vs := rgtC tt vv rd wt kk) (by simp) 0; have e1 : wrap64 (tt + n3) = tt + n3 := by unfold wrap64; omega)
                      all_goals
                        go_wp2
                        go_meet
                        have hm0 := Int.emod_nonneg (tt + n3) hNz
                        have hm1 := Int.emod_lt_of_pos (tt + n3) (show (0 : Int) < (N : Int) by omega)
                        have hwv : IntKind.i64.wrap (1 + (tt + n3) % (N : Int)) = 1 + (tt + n3) % (N : Int) := by
                          generalize (tt + n3) % (N : Int) = qq at hm0 hm1 ⊢
                          exact i64in _ (by omega)
                        rw [hwv]
                        refine ⟨1 + (tt + n3) % (N : Int), pp + 1, by omega, by omega, by omega, ?_⟩
                        have h9 := S7.out.put (by simp) 0 (.int .i64 (1 + (tt + n3) % (N : Int)))
                        rw [putRT] at h9
                        exact h9
                    case rest =>
                    obtain ⟨u, p6, hu1, huN, hp6, sD⟩ := hcut
                    obtain ⟨i, hi⟩ : ∃ i : Nat, u = (i : Int) + 1 := ⟨(u - 1).toNat, by omega⟩
                    subst hi
                    have hiN : i < N := by omega
                    have hiN' : (i : Int) < (N : Int) := by omega
                    have hwi : wrap64 ((i : Int) + 1 - 1) = (i : Int) := by unfold wrap64; omega
                    have SD := Lib.hid sD
                    have TD := Lib.hid (T4.out.grew hrw sD.1.1)
                    obtain ⟨t2, ht2⟩ : ∃ t2, vs[i]? = some t2 := ⟨vs[i]'(by rw [HV.out]; exact hiN), List.getElem?_eq_getElem _⟩
                    have d3 : wc.cell? ⟨g2, i * 8 + 3, none⟩ = some (.int .i64 t2.1.vers) := TD.out.at ht2 3 _ rfl
                    have hgl2 := cell_lt d3
                    clear c0 hxl ht2 sD SC
                    have c0 := SD.out.1.c (b := w4.heap.size) (T := 44) (vs := rgtC ((i : Int) + 1) vv rd wt kk) (by simp) 0 _ rfl
                    have c1 := SD.out.1.c (b := w4.heap.size) (T := 44) (vs := rgtC ((i : Int) + 1) vv rd wt kk) (by simp) 1 _ rfl
                    have f1 := SD.out.1.f (b := w4.heap.size) (T := 44) (vs := rgtC ((i : Int) + 1) vv rd wt kk) (by simp) 1
                    have hxl := (SD.out.1.box (b := w4.heap.size) (T := 44) (vs := rgtC ((i : Int) + 1) vv rd wt kk) (by simp)).lt
                    have s9 := SD.out.put (by simp) 1 (.int .i64 t2.1.vers)
                    rw [putRV] at s9
                    have S9 := Lib.hid s9
                    clear s9
                    generalize t2.1.vers = ve at *
                    by_cases hv0 : 0 < ve
                    · go_wp2_with fail
                      refine (pick_any _ a _ cap zs p6 5 _ S9.out.2.1 (by omega) (by decide) (by decide)).mono ?_
                      rintro e w8 ⟨n4, n4a, n4b, rfl, r8, g8, -⟩
                      have S10 := Lib.hid (S9.out.on g8 r8)
                      clear r8 g8 c0 c1 f1 d3 hgl2 hxl
                      by_cases h40 : n4 = 0
                      · subst h40
                        have c1 := S10.out.1.c (b := w4.heap.size) (T := 44) (vs := rgtC ((i : Int) + 1) ve rd wt kk) (by simp) 1 _ rfl
                        have f1 := S10.out.1.f (b := w4.heap.size) (T := 44) (vs := rgtC ((i : Int) + 1) ve rd wt kk) (by simp) 1
                        go_wp2
                        go_meet
                        refine ⟨⟨(i : Int) + 1, wrap64 (ve - 1), rd, wt, kk⟩, p6 + 1, by omega, ?_⟩
                        have h9 := S10.out.put (by simp) 1 (.int .i64 (wrap64 (ve - 1)))
                        rw [putRV] at h9
                        exact h9
                      · have h40' : (n4 == 0) = false := by simpa using h40
                        go_wp2
                        go_meet
                        exact ⟨⟨(i : Int) + 1, ve, rd, wt, kk⟩, p6 + 1, by omega, S10.out⟩
                    · go_wp2
                      go_meet
                      exact ⟨⟨(i : Int) + 1, ve, rd, wt, kk⟩, p6, by omega, S9.out⟩
                  case rest =>
                  obtain ⟨x, pp', hpp', sE⟩ := hcut
                  have SE := Lib.hid sE
                  have TE := Lib.hid (T4.out.grew hrw sE.1.1)
                  have BE := Lib.hid (B4.out.grew sE.1.1 (by omega))
                  have hXb : ¬ w4.heap.size = b := fun e => by have := B4.out.lt; omega
                  have hbX : ¬ b = w4.heap.size := fun e => hXb e.symm
                  have d5 : wc.cell? ⟨g2, m * 8 + 5, none⟩ = some (.slice (some ⟨b, 0, none⟩) 4 4) := by
                    have h9 : wc.cell? ⟨g2, m * 8 + 5, none⟩ = some (.slice t.2.1.a t.2.1.n t.2.1.c) := TE.out.at HTT.out 5 _ rfl
                    rw [HSE.out] at h9
                    exact h9
                  have hAt := (four_has BE.out).at (i := j) (by simp; omega)
                  obtain ⟨bb', oo, eb, hAt⟩ := hAt
                  simp only [Option.some.injEq, Addr.mk.injEq] at eb
                  obtain ⟨rfl, rfl, -⟩ := eb
                  have m0 := hAt 0 _ rfl
                  have m1 := hAt 1 _ rfl
                  have m2 := hAt 2 _ rfl
                  have m3 := hAt 3 _ rfl
                  have m4 := hAt 4 _ rfl
                  simp only [Nat.zero_add, Nat.add_zero] at m0 m1 m2 m3 m4
                  have f0 := BE.out.thaw (j * 5)
                  have f1 := BE.out.thaw (j * 5 + 1)
                  have f2 := BE.out.thaw (j * 5 + 2)
                  have f3 := BE.out.thaw (j * 5 + 3)
                  have f4 := BE.out.thaw (j * 5 + 4)
                  have x0 := SE.out.1.c (b := w4.heap.size) (T := 44) (vs := x.cs) (by simp) 0 _ rfl
                  have x1 := SE.out.1.c (b := w4.heap.size) (T := 44) (vs := x.cs) (by simp) 1 _ rfl
                  have x2 := SE.out.1.c (b := w4.heap.size) (T := 44) (vs := x.cs) (by simp) 2 _ rfl
                  have x3 := SE.out.1.c (b := w4.heap.size) (T := 44) (vs := x.cs) (by simp) 3 _ rfl
                  have x4 := SE.out.1.c (b := w4.heap.size) (T := 44) (vs := x.cs) (by simp) 4 _ rfl
                  have hgl3 := cell_lt d5
                  have hbl := BE.out.lt
                  have hxl := (SE.out.1.box (b := w4.heap.size) (T := 44) (vs := x.cs) (by simp)).lt
                  have SW := Lib.hid (S4.out.on sE.1.1 sE.2.1)
                  clear hAt sE
                  go_upto_region 26 with fail
                  go_cut [] from 54 to 127 (fun wx => ∃ (us' : List Tr) (c1 c2' c3 c4 : R5), us'.length = N ∧ us'[m]?.map (fun t => t.2) = some t.2 ∧ St w r a len cap zs pp' [] wx ∧ TaO w.heap.size wx (.slice (some ⟨g2, 0, none⟩) N c2) us' ∧ Box wx b 44 (sl20 c1 c2' c3 c4) ∧ Box wx w4.heap.size 44 x.cs)
                  case first =>
                    go_region_with fail
                    all_goals
                      go_wp2
                      go_meet
                      have hd : Below wc.heap.size wc wc.drew := (Below.refl _ _).drew
                      obtain ⟨us', l1, l2, t9⟩ := (TE.out.stay hd).set5 BE.out.drew j hj4 x
                      obtain ⟨c1, c2', c3, c4, b9⟩ := set5_box BE.out.drew j hj4 x
                      exact ⟨us', c1, c2', c3, c4, l1.trans HV.out, by rw [l2 m, HTT.out]; rfl, (SW.out.drew).set5 hb (by simp) x, t9, b9, set5_other (SE.out.1.box (b := w4.heap.size) (T := 44) (vs := x.cs) (by simp)).drew hXb x⟩
                  case rest =>
                  obtain ⟨us', c1, c2', c3, c4, hul', hut, sF, tF, bF, xF⟩ := hcut
                  have SF := Lib.hid sF
                  have TF := Lib.hid tF
                  have BF := Lib.hid bF
                  have HUL := Lib.hid hul'
                  obtain ⟨t', ht', hte⟩ : ∃ t', us'[m]? = some t' ∧ t'.2 = t.2 := by
                    cases hq : us'[m]? with
                    | none => simp [hq] at hut
                    | some t' => simp [hq] at hut; exact ⟨t', rfl, hut⟩
                  clear x0 x1 x2 x3 x4 m0 m1 m2 m3 m4 f0 f1 f2 f3 f4 d5 hgl3 hbl hxl sF tF hul' hut TE BE SE SW S4 T4 B4
                  have x0 := xF.cell 0 _ rfl
                  have x1 := xF.cell 1 _ rfl
                  have x2 := xF.cell 2 _ rfl
                  have x3 := xF.cell 3 _ rfl
                  have x4 := xF.cell 4 _ rfl
                  cases hxo : x.ok
                  · have HXO := Lib.hid hxo
                    clear hxo
                    go_wp2_with fail
                    refine (specROk_val HXO.out _).mono ?_
                    rintro e y1 ⟨rfl, hb1⟩
                    have SG := Lib.hid (SF.out.stay hb1)
                    have TG := Lib.hid (TF.out.stay hb1)
                    have BG := Lib.hid (BF.out.stay hb1)
                    clear hb1 x0 x1 x2 x3 x4 SF TF BF bF xF
                    go_wp2_with fail
                    refine (pick_any _ a _ cap zs pp' 3 _ SG.out.2.1 (by omega) (by decide) (by decide)).mono ?_
                    rintro e w9 ⟨n5, n5a, n5b, rfl, r9, g9, -⟩
                    have SH := Lib.hid (SG.out.on g9 r9)
                    have TH := Lib.hid (TG.out.grew hrw g9)
                    have BH := Lib.hid (BG.out.grew g9 (by omega))
                    clear r9 g9 SG TG BG
                    by_cases h5 : 0 < n5
                    · have d5 : w9.cell? ⟨g2, m * 8 + 5, none⟩ = some (.slice (some ⟨b, 0, none⟩) 4 4) := by
                        have h9 : w9.cell? ⟨g2, m * 8 + 5, none⟩ = some (.slice t'.2.1.a t'.2.1.n t'.2.1.c) := TH.out.at ht' 5 _ rfl
                        rw [hte, HSE.out] at h9
                        exact h9
                      have hAt := (four_has BH.out).at (i := j) (by simp; omega)
                      obtain ⟨bb', oo, eb, hAt⟩ := hAt
                      simp only [Option.some.injEq, Addr.mk.injEq] at eb
                      obtain ⟨rfl, rfl, -⟩ := eb
                      have m0 := hAt 0 _ rfl
                      have m1 := hAt 1 _ rfl
                      have m2 := hAt 2 _ rfl
                      have m3 := hAt 3 _ rfl
                      have m4 := hAt 4 _ rfl
                      simp only [Nat.zero_add, Nat.add_zero] at m0 m1 m2 m3 m4
                      have f0 := BH.out.thaw (j * 5)
                      have f1 := BH.out.thaw (j * 5 + 1)
                      have f2 := BH.out.thaw (j * 5 + 2)
                      have f3 := BH.out.thaw (j * 5 + 3)
                      have f4 := BH.out.thaw (j * 5 + 4)
                      have hgl3 := cell_lt d5
                      clear hAt hte ht'
                      go_wp2
                      go_roundw
                      case rel =>
                        obtain ⟨vs', l1, -, t9⟩ := TH.out.set5 BH.out j hj4 ⟨0, 0, false, false, false⟩
                        exact ⟨j + 1, vs', pp' + 1, by omega, by go_num, l1.trans HUL.out, by omega, SH.out.set5 hb (by simp) ⟨0, 0, false, false, false⟩, t9⟩
                      case measure => simp [intOf]; omega
                    · go_wp2
                      go_roundw
                      case rel => exact ⟨j + 1, us', pp' + 1, by omega, by go_num, HUL.out, by omega, SH.out, TH.out⟩
                      case measure => simp [intOf]; omega
                  · have HXO := Lib.hid hxo
                    clear hxo
                    go_wp2_with fail
                    refine (specROk_val HXO.out _).mono ?_
                    rintro e y1 ⟨rfl, hb1⟩
                    have SG := Lib.hid (SF.out.stay hb1)
                    have TG := Lib.hid (TF.out.stay hb1)
                    clear hb1 x0 x1 x2 x3 x4 SF TF BF bF xF hte ht'
                    go_wp2
                    go_roundw
                    case rel => exact ⟨j + 1, us', pp', by omega, by go_num, HUL.out, by omega, SG.out, TG.out⟩
                    case measure => simp [intOf]; omega
                · have hjl' : ¬ (j : Int) < (t.2.1.n : Int) := by omega
                  have hp4' : p4 ≤ p3 + 160 := by omega
                  clear hjl hj HTH
                  go_wp2
                  go_roundw
                  case rel => exact ⟨m + 1, vs, p4, by omega, by go_num, HV.out, by omega, SM.out, TM.out⟩
                  case measure => simp [intOf]; omega
            · have hlt' : ¬ (m : Int) < (N : Int) := by omega
              have hp3' : p3 ≤ p + 1800 := by omega
              clear hlt hm hp3
              go_wp2_with fail
              clear hlt'
              refine (pick_any _ a _ cap zs p3 30 _ SL.out.2.1 (by omega) (by decide) (by decide)).mono ?_
              rintro e y1 ⟨n6, n6a, n6b, rfl, r9, g9, -⟩
              have SG := Lib.hid (SL.out.on g9 r9)
              have TG := Lib.hid (TL.out.grew hrw g9)
              clear r9 g9 SL TL
              by_cases h6 : n6 = 0
              · subst h6
                go_wp2_with fail
                refine (pick_any _ a _ cap zs (p3 + 1) N _ SG.out.2.1 (by omega) (by omega) (by omega)).mono ?_
                rintro e y2 ⟨n7, n7a, n7b, rfl, r9, g9, -⟩
                have SH := Lib.hid (SG.out.on g9 r9)
                have TH := Lib.hid (TG.out.grew hrw g9)
                clear r9 g9 SG TG
                obtain ⟨i7, rfl⟩ : ∃ i7 : Nat, n7 = i7 := ⟨n7.toNat, by omega⟩
                go_wp2_with fail
                refine (pick_any _ a _ cap zs (p3 + 1 + 1) 5 _ SH.out.2.1 (by omega) (by decide) (by decide)).mono ?_
                rintro e y3 ⟨n8, n8a, n8b, rfl, r9, g9, -⟩
                have SI := Lib.hid (SH.out.on g9 r9)
                have TJ := Lib.hid (TH.out.grew hrw g9)
                clear r9 g9 SH TH
                have hi7 : i7 < N := by omega
                obtain ⟨t7, ht7⟩ : ∃ t7, us[i7]? = some t7 := ⟨us[i7]'(by rw [HU.out]; exact hi7), List.getElem?_eq_getElem _⟩
                have d0 : y3.cell? ⟨g2, i7 * 8, none⟩ = some (.int .i64 t7.1.kind) := TJ.out.at ht7 0 _ rfl
                have fz := TJ.out.thaw (by have := HU.out; omega) (i7 * 8)
                have hgl4 := cell_lt d0
                have e8 : wrap64 (1 + n8) = 1 + n8 := by unfold wrap64; omega
                have tF := TJ.out.put ht7 0 (by decide) (.int .i64 (1 + n8)) (t' := ({ t7.1 with kind := 1 + n8 }, t7.2)) (by simp) (fun W' h => h.as rfl rfl) (TJ.out.2 t7 (List.mem_of_getElem? ht7)).2
                have TF := Lib.hid tF
                have hg2 := (TJ.out.box (by have := HU.out; omega)).1
                have sF : St w r a len cap zs (p3 + 1 + 1 + 1) [] (y3.setCell ⟨g2, i7 * 8 + 0, none⟩ (.int .i64 (1 + n8))) := SI.out.own ((Below.refl _ _).setCell hg2 _) (by simp)
                have SF := Lib.hid sF
                clear tF sF ht7
                go_wp2
                go_ret
                refine ⟨g2, c2, us.set i7 ({ t7.1 with kind := 1 + n8 }, t7.2), ?_, ?_, by simp; have := HU.out; omega, by simp; have := HU.out; omega, _, ?_, SF.out.2.1, SF.out.1.1⟩
                · simp [HU.out]
                · have := TF.out
                  simpa [HU.out] using this
                · omega
              · have h6' : (n6 == 0) = false := by simpa using h6
                go_wp2
                go_ret
                refine ⟨g2, c2, us, ?_, ?_, by have := HU.out; omega, by have := HU.out; omega, _, ?_, SG.out.2.1, SG.out.1.1⟩
                · simp [HU.out]
                · rw [HU.out]; exact TG.out
                · omega
end Go.Proofs.YtpahahonopiblaaDoor
