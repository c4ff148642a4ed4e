/-
  What is told of a call: the model's l11Kind, l11Needs, l11Check and CheckCall.
-/
import Derived.Test.YtohfincnjhemfaaDoorChB
import Derived.Test.YtohfincnjhemfaaDoorChC
import Derived.Test.YtohfincnjhemfaaDoorChE
namespace Go.Proofs.YtohfincnjhemfaaDoor
open Go.RowKit
set_option linter.unusedVariables false
set_option maxRecDepth 100000

set_option maxHeartbeats 2000000 in
theorem l11Kind_any (k d : Int) (h : inR k 1 9 = true) (h3 : k ≠ 3) (w : World) :
    Calls Tryd.prog 87 #[.int .i64 k, .int .i64 d] w fun e w' => e = .returned (.bool (kindOk k d)) ∧ w' = w := by
  rcases eight h h3 with rfl | rfl | rfl | rfl | rfl | rfl | rfl | rfl
  · by_cases h1 : d = 1
    · subst h1
      go_enter Tryd.func87, Tryd.ntmps87
      go_wp2
      go_ret
      exact ⟨rfl, rfl⟩
    have g1 : (d == 1) = false := by simpa using h1
    have HV := Lib.hid (show kindOk 1 d = false by simp [kindOk, inL, kindsOf, h1])
    rw [HV.out]
    go_enter Tryd.func87, Tryd.ntmps87
    go_wp2
    go_ret
    exact ⟨rfl, rfl⟩
  · by_cases h1 : d = 1
    · subst h1
      go_enter Tryd.func87, Tryd.ntmps87
      go_wp2
      go_ret
      exact ⟨rfl, rfl⟩
    have g1 : (d == 1) = false := by simpa using h1
    have HV := Lib.hid (show kindOk 2 d = false by simp [kindOk, inL, kindsOf, h1])
    rw [HV.out]
    go_enter Tryd.func87, Tryd.ntmps87
    go_wp2
    go_ret
    exact ⟨rfl, rfl⟩
  · by_cases h2 : d = 2
    · subst h2
      go_enter Tryd.func87, Tryd.ntmps87
      go_wp2
      go_ret
      exact ⟨rfl, rfl⟩
    have g2 : (d == 2) = false := by simpa using h2
    have HV := Lib.hid (show kindOk 4 d = false by simp [kindOk, inL, kindsOf, h2])
    rw [HV.out]
    go_enter Tryd.func87, Tryd.ntmps87
    go_wp2
    go_ret
    exact ⟨rfl, rfl⟩
  · by_cases h2 : d = 2
    · subst h2
      go_enter Tryd.func87, Tryd.ntmps87
      go_wp2
      go_ret
      exact ⟨rfl, rfl⟩
    have g2 : (d == 2) = false := by simpa using h2
    have HV := Lib.hid (show kindOk 5 d = false by simp [kindOk, inL, kindsOf, h2])
    rw [HV.out]
    go_enter Tryd.func87, Tryd.ntmps87
    go_wp2
    go_ret
    exact ⟨rfl, rfl⟩
  · by_cases h4 : d = 4
    · subst h4
      go_enter Tryd.func87, Tryd.ntmps87
      go_wp2
      go_ret
      exact ⟨rfl, rfl⟩
    have g4 : (d == 4) = false := by simpa using h4
    have HV := Lib.hid (show kindOk 6 d = false by simp [kindOk, inL, kindsOf, h4])
    rw [HV.out]
    go_enter Tryd.func87, Tryd.ntmps87
    go_wp2
    go_ret
    exact ⟨rfl, rfl⟩
  · by_cases h4 : d = 4
    · subst h4
      go_enter Tryd.func87, Tryd.ntmps87
      go_wp2
      go_ret
      exact ⟨rfl, rfl⟩
    have g4 : (d == 4) = false := by simpa using h4
    have HV := Lib.hid (show kindOk 7 d = false by simp [kindOk, inL, kindsOf, h4])
    rw [HV.out]
    go_enter Tryd.func87, Tryd.ntmps87
    go_wp2
    go_ret
    exact ⟨rfl, rfl⟩
  · by_cases h1 : d = 1
    · subst h1
      go_enter Tryd.func87, Tryd.ntmps87
      go_wp2
      go_ret
      exact ⟨rfl, rfl⟩
    have g1 : (d == 1) = false := by simpa using h1
    by_cases h2 : d = 2
    · subst h2
      go_enter Tryd.func87, Tryd.ntmps87
      go_wp2
      go_ret
      exact ⟨rfl, rfl⟩
    have g2 : (d == 2) = false := by simpa using h2
    by_cases h4 : d = 4
    · subst h4
      go_enter Tryd.func87, Tryd.ntmps87
      go_wp2
      go_ret
      exact ⟨rfl, rfl⟩
    have g4 : (d == 4) = false := by simpa using h4
    have HV := Lib.hid (show kindOk 8 d = false by simp [kindOk, inL, kindsOf, h1, h2, h4])
    rw [HV.out]
    go_enter Tryd.func87, Tryd.ntmps87
    go_wp2
    go_ret
    exact ⟨rfl, rfl⟩
  · by_cases h5 : d = 5
    · subst h5
      go_enter Tryd.func87, Tryd.ntmps87
      go_wp2
      go_ret
      exact ⟨rfl, rfl⟩
    have g5 : (d == 5) = false := by simpa using h5
    have HV := Lib.hid (show kindOk 9 d = false by simp [kindOk, inL, kindsOf, h5])
    rw [HV.out]
    go_enter Tryd.func87, Tryd.ntmps87
    go_wp2
    go_ret
    exact ⟨rfl, rfl⟩

theorem l11Kind_val {k d : Int} {b : Bool} (hv : kindOk k d = b) (h : inR k 1 9 = true) (h3 : k ≠ 3) (w : World) :
    Calls Tryd.prog 87 #[.int .i64 k, .int .i64 d] w fun e w' => e = .returned (.bool b) ∧ w' = w := by
  subst hv; exact l11Kind_any k d h h3 w

set_option maxHeartbeats 2000000 in
theorem l11Needs_any (k : Int) (h : inR k 1 9 = true) (h3 : k ≠ 3) (w : World) :
    Calls Tryd.prog 95 #[.int .i64 k] w fun e w' => e = .returned (.slice (some ⟨w.heap.size, 0, none⟩) 4 4) ∧ w' = w.alloc (.cells #[.bool (needR k), .bool (needW k), .bool (needR k), .bool (needW k)] 4) := by
  rcases eight h h3 with rfl | rfl | rfl | rfl | rfl | rfl | rfl | rfl
  all_goals
    go_enter Tryd.func95, Tryd.ntmps95
    go_wp2
    go_ret
    exact ⟨rfl, rfl⟩
theorem l11Needs_val {k : Int} {nr nw : Bool} (hr : needR k = nr) (hw : needW k = nw) (h : inR k 1 9 = true) (h3 : k ≠ 3) (w : World) :
    Calls Tryd.prog 95 #[.int .i64 k] w fun e w' => e = .returned (.slice (some ⟨w.heap.size, 0, none⟩) 4 4) ∧ w' = w.alloc (.cells #[.bool nr, .bool nw, .bool nr, .bool nw] 4) := by
  subst hr hw; exact l11Needs_any k h h3 w
theorem l3Live_val {l : List T8} {s : Sl} {r : R5} {v : Bool} (h : liveB l r = v) (w : World) (ht : HasT w s l) (hz : l.length ≤ 1048576) :
    Calls Tryd.prog 96 #[.slice s.a s.n s.c, rgt r.t r.v r.r r.w r.k] w fun e w' => e = .returned (.bool v) ∧ Below w.heap.size w w' := by
  subst h; exact l3Live_any l s r w ht hz
theorem l11Sees_val {l : List T8} {s : Sl} {r n : Int} {v : Bool} (h : seesT (thAt l r) (thAt l n) = v) (w : World) (ht : HasT w s l) (hz : l.length ≤ 1048576) (h1 : tabOk l = true) (hr : inR r 1 l.length = true) (hn : inR n 1 l.length = true) :
    Calls Tryd.prog 53 #[.slice s.a s.n s.c, .int .i64 r, .int .i64 n] w fun e w' => e = .returned (.bool v) ∧ Below w.heap.size w w' := by
  subst h; exact l11Sees_any l s r n w ht hz h1 hr hn
theorem l11Touches_val {l : List T8} {s : Sl} {r n : Int} {v : Bool} (h : touT (thAt l r) (thAt l n) = v) (w : World) (ht : HasT w s l) (hz : l.length ≤ 1048576) (h1 : tabOk l = true) (hr : inR r 1 l.length = true) (hn : inR n 1 l.length = true) :
    Calls Tryd.prog 60 #[.slice s.a s.n s.c, .int .i64 r, .int .i64 n] w fun e w' => e = .returned (.bool v) ∧ Below w.heap.size w w' := by
  subst h; exact l11Touches_any l s r n w ht hz h1 hr hn
theorem l11Needs_box {k : Int} {nr nw : Bool} (hr : needR k = nr) (hw : needW k = nw) (h : inR k 1 9 = true) (h3 : k ≠ 3) (w : World) :
    Calls Tryd.prog 95 #[.int .i64 k] w fun e w' => ∃ nb : Nat, e = .returned (.slice (some ⟨nb, 0, none⟩) 4 4) ∧ Box w' nb 4 #[.bool nr, .bool nw, .bool nr, .bool nw] ∧ Below w.heap.size w w' :=
  (l11Needs_val hr hw h h3 w).mono fun e w' ⟨h1, h2⟩ => ⟨w.heap.size, h1, by rw [h2]; exact Box.fresh _ _ _, by rw [h2]; exact (Below.refl _ _).alloc (Nat.le_refl _) _⟩
theorem Kn.also {w x : World} {L : List Blk3} (h : Kn w L x) {b : Nat} {T : TypeId} {vs : Array Value} (hb : Box x b T vs) : Kn w ((b, T, vs) :: L) x :=
  ⟨h.1, fun t ht => by rcases List.mem_cons.1 ht with rfl | ht; exact hb; exact h.2 t ht⟩
/-- A call needs to read or to write. -/
theorem need_one {k : Int} (h : needR k = false) : needW k = true := by
  unfold needR at h
  unfold needW
  cases h1 : (k == 1) <;> cases h4 : (k == 4) <;> simp_all

set_option maxHeartbeats 8000000 in
theorem l11Check_copy (l : List T8) (s : Sl) (r a b n : Int) (w : World) :
    Calls Tryd.prog 64 #[.slice s.a s.n s.c, .agg #[.int .i64 3, .int .i64 r, .int .i64 a, .int .i64 b, .int .i64 n]] w fun e w' => e = .returned (.int .i64 0) ∧ Below w.heap.size w w' := by
  go_enter Tryd.func64, Tryd.ntmps64
  go_wp2
  go_ret
  exact ⟨rfl, (Below.refl _ _).alloc (Nat.le_refl _) _⟩

set_option maxHeartbeats 16000000 in
theorem l11Check_at (l : List T8) (b o c : Nat) (ck : Int) (jr ja : Nat) (cb cn : Int) (hjr : jr < l.length) (rb ro sc : Nat) (qs : Sl) (rt rv : Int) (rr rw_ rk : Bool) (w : World)
    (ht : HasT w ⟨some ⟨b, o, none⟩, l.length, c⟩ l) (hz : l.length ≤ 8) (h1 : tabOk l = true) (k9 : inR ck 1 9 = true) (k3 : ck ≠ 3) (hja : ja < 4)
    (hA : At w b (o + jr * 8) (l[jr].cs ⟨some ⟨rb, ro, none⟩, 4, sc⟩ qs)) (hB : At w rb (ro + ja * 5) (rgtC rt rv rr rw_ rk)) (t0 : 0 ≤ rt) (tl : rt ≤ l.length) :
    Calls Tryd.prog 64 #[.slice (some ⟨b, o, none⟩) l.length c, .agg #[.int .i64 ck, .int .i64 ((jr : Int) + 1), .int .i64 (ja : Int), .int .i64 cb, .int .i64 cn]] w fun e w' => e = .returned (.int .i64 (useV l l[jr] ⟨rt, rv, rr, rw_, rk⟩ ck)) ∧ Below w.heap.size w w' := by
  have HK0 := Lib.hid ((Kn.refl (w := w)).new 37 (C5.cs ⟨ck, (jr : Int) + 1, (ja : Int), cb, cn⟩))
  have HT := Lib.hid ht
  have H1 := Lib.hid h1
  have K9 := Lib.hid k9
  have K3 := Lib.hid k3
  have k3' : (ck == 3) = false := by simpa using k3
  obtain ⟨u1, e1⟩ : ∃ u, kindOk ck (thAt l rt).kind = u := ⟨_, rfl⟩
  obtain ⟨u3, e3⟩ : ∃ u, seesT l[jr] (thAt l rt) = u := ⟨_, rfl⟩
  obtain ⟨u4, e4⟩ : ∃ u, touT l[jr] (thAt l rt) = u := ⟨_, rfl⟩
  obtain ⟨u5, e5⟩ : ∃ u, liveB l ⟨rt, rv, rr, rw_, rk⟩ = u := ⟨_, rfl⟩
  obtain ⟨nr, en⟩ : ∃ u, needR ck = u := ⟨_, rfl⟩
  obtain ⟨nw, ew⟩ : ∃ u, needW ck = u := ⟨_, rfl⟩
  have HUV := Lib.hid (show useV l l[jr] ⟨rt, rv, rr, rw_, rk⟩ ck = (if (rt == 0 || (!u1 || ((nr && !rr) || (nw && !rw_)))) then -1 else if ((nr && !u3) || (nw && !u4)) then -2 else if (u3 && !u5) then -3 else 0) by
    simp only [useV, e1, e3, e4, e5, en, ew])
  have E1 := Lib.hid e1
  have E3 := Lib.hid (show seesT (thAt l ((jr : Int) + 1)) (thAt l rt) = u3 by rw [thAt_of hjr (show (jr : Int) + 1 - 1 = jr by omega)]; exact e3)
  have E4 := Lib.hid (show touT (thAt l ((jr : Int) + 1)) (thAt l rt) = u4 by rw [thAt_of hjr (show (jr : Int) + 1 - 1 = jr by omega)]; exact e4)
  have E5 := Lib.hid e5
  have EN := Lib.hid en
  have EW := Lib.hid ew
  have HIR := Lib.hid (show inR ((jr : Int) + 1) 1 l.length = true by simp [inR]; omega)
  have ENW := Lib.hid (show nr = false → nw = true from fun h => by rw [← ew]; exact need_one (en.trans h))
  clear e1 e3 e4 e5 en ew h1 k9 k3 ht
  have hAl := hA.stay ((Below.refl _ _).alloc (Nat.le_refl _) (.cells (C5.cs ⟨ck, (jr : Int) + 1, (ja : Int), cb, cn⟩) 37))
  have hBl := hB.stay ((Below.refl _ _).alloc (Nat.le_refl _) (.cells (C5.cs ⟨ck, (jr : Int) + 1, (ja : Int), cb, cn⟩) 37))
  obtain ⟨W1, hW1⟩ : ∃ W1, w.alloc (.cells (C5.cs ⟨ck, (jr : Int) + 1, (ja : Int), cb, cn⟩) 37) = W1 := ⟨_, rfl⟩
  rw [hW1] at hAl hBl HK0
  have f5 : W1.cell? ⟨b, o + jr * 8 + 5, none⟩ = some (.slice (some ⟨rb, ro, none⟩) 4 sc) := hAl 5 _ rfl
  have g0 : W1.cell? ⟨rb, ro + ja * 5, none⟩ = some (.int .i64 rt) := hBl 0 _ rfl
  have g1 : W1.cell? ⟨rb, ro + ja * 5 + 1, none⟩ = some (.int .i64 rv) := hBl 1 _ rfl
  have g2 : W1.cell? ⟨rb, ro + ja * 5 + 2, none⟩ = some (.bool rr) := hBl 2 _ rfl
  have g3 : W1.cell? ⟨rb, ro + ja * 5 + 3, none⟩ = some (.bool rw_) := hBl 3 _ rfl
  have g4 : W1.cell? ⟨rb, ro + ja * 5 + 4, none⟩ = some (.bool rk) := hBl 4 _ rfl
  have hbl1 := cell_lt f5
  have hbl2 := cell_lt g0
  have c0 := HK0.out.c (b := w.heap.size) (T := 37) (vs := C5.cs ⟨ck, (jr : Int) + 1, (ja : Int), cb, cn⟩) (by simp) 0 _ rfl
  have c1 := HK0.out.c (b := w.heap.size) (T := 37) (vs := C5.cs ⟨ck, (jr : Int) + 1, (ja : Int), cb, cn⟩) (by simp) 1 _ rfl
  have c2 := HK0.out.c (b := w.heap.size) (T := 37) (vs := C5.cs ⟨ck, (jr : Int) + 1, (ja : Int), cb, cn⟩) (by simp) 2 _ rfl
  have c3 := HK0.out.c (b := w.heap.size) (T := 37) (vs := C5.cs ⟨ck, (jr : Int) + 1, (ja : Int), cb, cn⟩) (by simp) 3 _ rfl
  have c4 := HK0.out.c (b := w.heap.size) (T := 37) (vs := C5.cs ⟨ck, (jr : Int) + 1, (ja : Int), cb, cn⟩) (by simp) 4 _ rfl
  have lt1 := (HK0.out.box (b := w.heap.size) (T := 37) (vs := C5.cs ⟨ck, (jr : Int) + 1, (ja : Int), cb, cn⟩) (by simp)).lt
  have wr : wrap64 ((jr : Int) + 1 - 1) = (jr : Int) := by unfold wrap64; omega
  have wr2 : IntKind.i64.wrap (jr : Int) = (jr : Int) := IntWalk.i64_in _ (by omega)
  have wa : IntKind.i64.wrap (ja : Int) = (ja : Int) := IntWalk.i64_in _ (by omega)
  have hjr' : (jr : Int) < (l.length : Int) := by omega
  have hja' : (ja : Int) < 4 := by omega
  clear hA hB hAl hBl
  go_enter Tryd.func64, Tryd.ntmps64
  go_upto_region 3 with fail
  go_region
  have HK1 := Lib.hid ((HK0.out.new 43 (rgtC rt rv rr rw_ rk)).drew)
  clear f5 g0 g1 g2 g3 g4
  go_wp2_with fail
  refine (l11Needs_box EN.out EW.out K9.out K3.out _).mono ?_
  rintro e y2 ⟨nb, rfl, bn, hb⟩
  have HK2 := Lib.hid ((HK1.out.stay hb).also bn)
  clear hb bn HK1 c0 c1 c2 c3 c4 hW1
  by_cases h0 : rt = 0
  · subst h0
    have c0 := HK2.out.c (b := w.heap.size) (T := 37) (vs := C5.cs ⟨ck, (jr : Int) + 1, (ja : Int), cb, cn⟩) (by simp) 0 _ rfl
    have c1 := HK2.out.c (b := w.heap.size) (T := 37) (vs := C5.cs ⟨ck, (jr : Int) + 1, (ja : Int), cb, cn⟩) (by simp) 1 _ rfl
    have r0 := HK2.out.c (b := W1.heap.size) (T := 43) (vs := rgtC 0 rv rr rw_ rk) (by simp) 0 _ rfl
    have r1 := HK2.out.c (b := W1.heap.size) (T := 43) (vs := rgtC 0 rv rr rw_ rk) (by simp) 1 _ rfl
    have r2 := HK2.out.c (b := W1.heap.size) (T := 43) (vs := rgtC 0 rv rr rw_ rk) (by simp) 2 _ rfl
    have r3 := HK2.out.c (b := W1.heap.size) (T := 43) (vs := rgtC 0 rv rr rw_ rk) (by simp) 3 _ rfl
    have r4 := HK2.out.c (b := W1.heap.size) (T := 43) (vs := rgtC 0 rv rr rw_ rk) (by simp) 4 _ rfl
    have n0 := HK2.out.c (b := nb) (T := 4) (vs := #[.bool nr, .bool nw, .bool nr, .bool nw]) (by simp) 0 _ rfl
    have n1 := HK2.out.c (b := nb) (T := 4) (vs := #[.bool nr, .bool nw, .bool nr, .bool nw]) (by simp) 1 _ rfl
    have n2 := HK2.out.c (b := nb) (T := 4) (vs := #[.bool nr, .bool nw, .bool nr, .bool nw]) (by simp) 2 _ rfl
    have n3 := HK2.out.c (b := nb) (T := 4) (vs := #[.bool nr, .bool nw, .bool nr, .bool nw]) (by simp) 3 _ rfl
    go_upto_region 5 with fail
    go_quiet ((go_at_call 87; refine Calls.quiet_of_same (l11Kind_val E1.out K9.out K3.out _)))
    go_wp2
    go_ret
    refine ⟨?_, (HK2.out.drewN _).1⟩
    rw [HUV.out]
    rfl
  obtain ⟨jn, hjn⟩ : ∃ j : Nat, rt - 1 = j := ⟨(rt - 1).toNat, by omega⟩
  have hjn2 : jn < l.length := by omega
  have hjn' : (jn : Int) < (l.length : Int) := by omega
  obtain rfl : rt = (jn : Int) + 1 := by omega
  have t0' : (((jn : Int) + 1) == 0) = false := by simp; omega
  have wn : wrap64 ((jn : Int) + 1 - 1) = (jn : Int) := by unfold wrap64; omega
  have wn2 : IntKind.i64.wrap (jn : Int) = (jn : Int) := IntWalk.i64_in _ (by omega)
  have hin1 : ¬ (jn : Int) + 1 = 0 := by omega
  have HIN := Lib.hid (show inR ((jn : Int) + 1) 1 l.length = true by simp [inR]; omega)
  rw [thAt_of hjn2 (show (jn : Int) + 1 - 1 = jn by omega)] at E1
  have T2 := Lib.hid (HT.out.stay HK2.out.1)
  have d0 : y2.cell? ⟨b, o + jn * 8, none⟩ = some (.int .i64 l[jn].kind) := by
    obtain ⟨b', o', e, h⟩ := T2.out.ne hjn2
    simp only [Option.some.injEq, Addr.mk.injEq] at e
    obtain ⟨rfl, rfl, -⟩ := e
    obtain ⟨ss, qs, -, -, hA⟩ := h jn hjn2
    exact hA 0 _ rfl
  generalize l[jn].kind = kd at *
  clear hjn h0
  have hz6 : l.length ≤ 1048576 := by omega
  have c0 := HK2.out.c (b := w.heap.size) (T := 37) (vs := C5.cs ⟨ck, (jr : Int) + 1, (ja : Int), cb, cn⟩) (by simp) 0 _ rfl
  have c1 := HK2.out.c (b := w.heap.size) (T := 37) (vs := C5.cs ⟨ck, (jr : Int) + 1, (ja : Int), cb, cn⟩) (by simp) 1 _ rfl
  have r0 := HK2.out.c (b := W1.heap.size) (T := 43) (vs := rgtC ((jn : Int) + 1) rv rr rw_ rk) (by simp) 0 _ rfl
  have r1 := HK2.out.c (b := W1.heap.size) (T := 43) (vs := rgtC ((jn : Int) + 1) rv rr rw_ rk) (by simp) 1 _ rfl
  have r2 := HK2.out.c (b := W1.heap.size) (T := 43) (vs := rgtC ((jn : Int) + 1) rv rr rw_ rk) (by simp) 2 _ rfl
  have r3 := HK2.out.c (b := W1.heap.size) (T := 43) (vs := rgtC ((jn : Int) + 1) rv rr rw_ rk) (by simp) 3 _ rfl
  have r4 := HK2.out.c (b := W1.heap.size) (T := 43) (vs := rgtC ((jn : Int) + 1) rv rr rw_ rk) (by simp) 4 _ rfl
  have n0 := HK2.out.c (b := nb) (T := 4) (vs := #[.bool nr, .bool nw, .bool nr, .bool nw]) (by simp) 0 _ rfl
  have n1 := HK2.out.c (b := nb) (T := 4) (vs := #[.bool nr, .bool nw, .bool nr, .bool nw]) (by simp) 1 _ rfl
  have n2 := HK2.out.c (b := nb) (T := 4) (vs := #[.bool nr, .bool nw, .bool nr, .bool nw]) (by simp) 2 _ rfl
  have n3 := HK2.out.c (b := nb) (T := 4) (vs := #[.bool nr, .bool nw, .bool nr, .bool nw]) (by simp) 3 _ rfl
  cases u1
  · go_upto_region 5 with fail
    go_quiet ((go_at_call 87; refine Calls.quiet_of_same (l11Kind_val E1.out K9.out K3.out _)))
    go_wp2
    go_ret
    refine ⟨?_, (HK2.out.drewN _).1⟩
    rw [HUV.out, t0']
    rfl
  cases nr
  · obtain rfl := ENW.out rfl
    cases rw_
    · go_upto_region 5 with fail
      go_quiet ((go_at_call 87; refine Calls.quiet_of_same (l11Kind_val E1.out K9.out K3.out _)))
      go_wp2
      go_ret
      refine ⟨?_, (HK2.out.drewN _).1⟩
      rw [HUV.out, t0']
      rfl
    go_upto_region 5 with fail
    go_quiet ((go_at_call 87; refine Calls.quiet_of_same (l11Kind_val E1.out K9.out K3.out _)))
    have HKq := Lib.hid (HK2.out.drewN nq)
    obtain ⟨Y, hY⟩ : ∃ Y, y2.drewN nq = Y := ⟨_, rfl⟩
    rw [hY] at HKq
    clear c0 c1 r0 r1 r2 r3 r4 n0 n1 n2 n3 d0 T2
    rw [hY]
    clear hY HK2
    have c1 := HKq.out.c (b := w.heap.size) (T := 37) (vs := C5.cs ⟨ck, (jr : Int) + 1, (ja : Int), cb, cn⟩) (by simp) 1 _ rfl
    have r0 := HKq.out.c (b := W1.heap.size) (T := 43) (vs := rgtC ((jn : Int) + 1) rv rr true rk) (by simp) 0 _ rfl
    go_wp2_with fail
    refine (l11Sees_val (s := ⟨some ⟨b, o, none⟩, l.length, c⟩) E3.out _ (HT.out.stay HKq.out.1) hz6 H1.out HIR.out HIN.out).mono ?_
    rintro e y3 ⟨rfl, hb⟩
    have HK3 := Lib.hid (HKq.out.stay hb)
    clear hb HKq c1 r0
    have c1 := HK3.out.c (b := w.heap.size) (T := 37) (vs := C5.cs ⟨ck, (jr : Int) + 1, (ja : Int), cb, cn⟩) (by simp) 1 _ rfl
    have r0 := HK3.out.c (b := W1.heap.size) (T := 43) (vs := rgtC ((jn : Int) + 1) rv rr true rk) (by simp) 0 _ rfl
    have n2 := HK3.out.c (b := nb) (T := 4) (vs := #[.bool false, .bool true, .bool false, .bool true]) (by simp) 2 _ rfl
    have n3 := HK3.out.c (b := nb) (T := 4) (vs := #[.bool false, .bool true, .bool false, .bool true]) (by simp) 3 _ rfl
    go_wp2_with fail
    refine (l11Touches_val (s := ⟨some ⟨b, o, none⟩, l.length, c⟩) E4.out _ (HT.out.stay HK3.out.1) hz6 H1.out HIR.out HIN.out).mono ?_
    rintro e y4 ⟨rfl, hb⟩
    have HK4 := Lib.hid (HK3.out.stay hb)
    clear hb c1 r0 n2 n3
    cases u4
    · go_wp2
      go_ret
      refine ⟨?_, HK4.out.1⟩
      rw [HUV.out, t0']
      rfl
    cases u3
    · go_wp2
      go_ret
      refine ⟨?_, HK4.out.1⟩
      rw [HUV.out, t0']
      rfl
    have r0 := HK4.out.c (b := W1.heap.size) (T := 43) (vs := rgtC ((jn : Int) + 1) rv rr true rk) (by simp) 0 _ rfl
    have r1 := HK4.out.c (b := W1.heap.size) (T := 43) (vs := rgtC ((jn : Int) + 1) rv rr true rk) (by simp) 1 _ rfl
    have r2 := HK4.out.c (b := W1.heap.size) (T := 43) (vs := rgtC ((jn : Int) + 1) rv rr true rk) (by simp) 2 _ rfl
    have r3 := HK4.out.c (b := W1.heap.size) (T := 43) (vs := rgtC ((jn : Int) + 1) rv rr true rk) (by simp) 3 _ rfl
    have r4 := HK4.out.c (b := W1.heap.size) (T := 43) (vs := rgtC ((jn : Int) + 1) rv rr true rk) (by simp) 4 _ rfl
    go_wp2_with fail
    refine (l3Live_val (s := ⟨some ⟨b, o, none⟩, l.length, c⟩) (r := ⟨(jn : Int) + 1, rv, rr, true, rk⟩) E5.out _ (HT.out.stay HK4.out.1) hz6).mono ?_
    rintro e y5 ⟨rfl, hb⟩
    have HK5 := Lib.hid (HK4.out.stay hb)
    clear hb r0 r1 r2 r3 r4
    cases u5
    · go_wp2
      go_ret
      refine ⟨?_, HK5.out.1⟩
      rw [HUV.out, t0']
      rfl
    · go_wp2
      go_ret
      refine ⟨?_, HK5.out.1⟩
      rw [HUV.out, t0']
      rfl
  cases rr
  · go_upto_region 5 with fail
    go_quiet ((go_at_call 87; refine Calls.quiet_of_same (l11Kind_val E1.out K9.out K3.out _)))
    go_wp2
    go_ret
    refine ⟨?_, (HK2.out.drewN _).1⟩
    rw [HUV.out, t0']
    rfl
  cases nw
  · go_upto_region 5 with fail
    go_quiet ((go_at_call 87; refine Calls.quiet_of_same (l11Kind_val E1.out K9.out K3.out _)))
    have HKq := Lib.hid (HK2.out.drewN nq)
    obtain ⟨Y, hY⟩ : ∃ Y, y2.drewN nq = Y := ⟨_, rfl⟩
    rw [hY] at HKq
    clear c0 c1 r0 r1 r2 r3 r4 n0 n1 n2 n3 d0 T2
    rw [hY]
    clear hY HK2
    have c1 := HKq.out.c (b := w.heap.size) (T := 37) (vs := C5.cs ⟨ck, (jr : Int) + 1, (ja : Int), cb, cn⟩) (by simp) 1 _ rfl
    have r0 := HKq.out.c (b := W1.heap.size) (T := 43) (vs := rgtC ((jn : Int) + 1) rv true rw_ rk) (by simp) 0 _ rfl
    go_wp2_with fail
    refine (l11Sees_val (s := ⟨some ⟨b, o, none⟩, l.length, c⟩) E3.out _ (HT.out.stay HKq.out.1) hz6 H1.out HIR.out HIN.out).mono ?_
    rintro e y3 ⟨rfl, hb⟩
    have HK3 := Lib.hid (HKq.out.stay hb)
    clear hb HKq c1 r0
    have n2 := HK3.out.c (b := nb) (T := 4) (vs := #[.bool true, .bool false, .bool true, .bool false]) (by simp) 2 _ rfl
    have n3 := HK3.out.c (b := nb) (T := 4) (vs := #[.bool true, .bool false, .bool true, .bool false]) (by simp) 3 _ rfl
    cases u3
    · go_wp2
      go_ret
      refine ⟨?_, HK3.out.1⟩
      rw [HUV.out, t0']
      rfl
    have r0 := HK3.out.c (b := W1.heap.size) (T := 43) (vs := rgtC ((jn : Int) + 1) rv true rw_ rk) (by simp) 0 _ rfl
    have r1 := HK3.out.c (b := W1.heap.size) (T := 43) (vs := rgtC ((jn : Int) + 1) rv true rw_ rk) (by simp) 1 _ rfl
    have r2 := HK3.out.c (b := W1.heap.size) (T := 43) (vs := rgtC ((jn : Int) + 1) rv true rw_ rk) (by simp) 2 _ rfl
    have r3 := HK3.out.c (b := W1.heap.size) (T := 43) (vs := rgtC ((jn : Int) + 1) rv true rw_ rk) (by simp) 3 _ rfl
    have r4 := HK3.out.c (b := W1.heap.size) (T := 43) (vs := rgtC ((jn : Int) + 1) rv true rw_ rk) (by simp) 4 _ rfl
    go_wp2_with fail
    refine (l3Live_val (s := ⟨some ⟨b, o, none⟩, l.length, c⟩) (r := ⟨(jn : Int) + 1, rv, true, rw_, rk⟩) E5.out _ (HT.out.stay HK3.out.1) hz6).mono ?_
    rintro e y5 ⟨rfl, hb⟩
    have HK5 := Lib.hid (HK3.out.stay hb)
    clear hb r0 r1 r2 r3 r4
    cases u5
    · go_wp2
      go_ret
      refine ⟨?_, HK5.out.1⟩
      rw [HUV.out, t0']
      rfl
    · go_wp2
      go_ret
      refine ⟨?_, HK5.out.1⟩
      rw [HUV.out, t0']
      rfl
  cases rw_
  · go_upto_region 5 with fail
    go_quiet ((go_at_call 87; refine Calls.quiet_of_same (l11Kind_val E1.out K9.out K3.out _)))
    go_wp2
    go_ret
    refine ⟨?_, (HK2.out.drewN _).1⟩
    rw [HUV.out, t0']
    rfl
  go_upto_region 5 with fail
  go_quiet ((go_at_call 87; refine Calls.quiet_of_same (l11Kind_val E1.out K9.out K3.out _)))
  have HKq := Lib.hid (HK2.out.drewN nq)
  obtain ⟨Y, hY⟩ : ∃ Y, y2.drewN nq = Y := ⟨_, rfl⟩
  rw [hY] at HKq
  clear c0 c1 r0 r1 r2 r3 r4 n0 n1 n2 n3 d0 T2
  rw [hY]
  clear hY HK2
  have c1 := HKq.out.c (b := w.heap.size) (T := 37) (vs := C5.cs ⟨ck, (jr : Int) + 1, (ja : Int), cb, cn⟩) (by simp) 1 _ rfl
  have r0 := HKq.out.c (b := W1.heap.size) (T := 43) (vs := rgtC ((jn : Int) + 1) rv true true rk) (by simp) 0 _ rfl
  go_wp2_with fail
  refine (l11Sees_val (s := ⟨some ⟨b, o, none⟩, l.length, c⟩) E3.out _ (HT.out.stay HKq.out.1) hz6 H1.out HIR.out HIN.out).mono ?_
  rintro e y3 ⟨rfl, hb⟩
  have HK3 := Lib.hid (HKq.out.stay hb)
  clear hb HKq c1 r0
  have n2 := HK3.out.c (b := nb) (T := 4) (vs := #[.bool true, .bool true, .bool true, .bool true]) (by simp) 2 _ rfl
  have n3 := HK3.out.c (b := nb) (T := 4) (vs := #[.bool true, .bool true, .bool true, .bool true]) (by simp) 3 _ rfl
  cases u3
  · go_wp2
    go_ret
    refine ⟨?_, HK3.out.1⟩
    rw [HUV.out, t0']
    rfl
  clear n2 n3
  have c1 := HK3.out.c (b := w.heap.size) (T := 37) (vs := C5.cs ⟨ck, (jr : Int) + 1, (ja : Int), cb, cn⟩) (by simp) 1 _ rfl
  have r0 := HK3.out.c (b := W1.heap.size) (T := 43) (vs := rgtC ((jn : Int) + 1) rv true true rk) (by simp) 0 _ rfl
  have n2 := HK3.out.c (b := nb) (T := 4) (vs := #[.bool true, .bool true, .bool true, .bool true]) (by simp) 2 _ rfl
  have n3 := HK3.out.c (b := nb) (T := 4) (vs := #[.bool true, .bool true, .bool true, .bool true]) (by simp) 3 _ rfl
  go_wp2_with fail
  refine (l11Touches_val (s := ⟨some ⟨b, o, none⟩, l.length, c⟩) E4.out _ (HT.out.stay HK3.out.1) hz6 H1.out HIR.out HIN.out).mono ?_
  rintro e y4 ⟨rfl, hb⟩
  have HK4 := Lib.hid (HK3.out.stay hb)
  clear hb c1 r0 n2 n3
  cases u4
  · go_wp2
    go_ret
    refine ⟨?_, HK4.out.1⟩
    rw [HUV.out, t0']
    rfl
  have r0 := HK4.out.c (b := W1.heap.size) (T := 43) (vs := rgtC ((jn : Int) + 1) rv true true rk) (by simp) 0 _ rfl
  have r1 := HK4.out.c (b := W1.heap.size) (T := 43) (vs := rgtC ((jn : Int) + 1) rv true true rk) (by simp) 1 _ rfl
  have r2 := HK4.out.c (b := W1.heap.size) (T := 43) (vs := rgtC ((jn : Int) + 1) rv true true rk) (by simp) 2 _ rfl
  have r3 := HK4.out.c (b := W1.heap.size) (T := 43) (vs := rgtC ((jn : Int) + 1) rv true true rk) (by simp) 3 _ rfl
  have r4 := HK4.out.c (b := W1.heap.size) (T := 43) (vs := rgtC ((jn : Int) + 1) rv true true rk) (by simp) 4 _ rfl
  go_wp2_with fail
  refine (l3Live_val (s := ⟨some ⟨b, o, none⟩, l.length, c⟩) (r := ⟨(jn : Int) + 1, rv, true, true, rk⟩) E5.out _ (HT.out.stay HK4.out.1) hz6).mono ?_
  rintro e y5 ⟨rfl, hb⟩
  have HK5 := Lib.hid (HK4.out.stay hb)
  clear hb r0 r1 r2 r3 r4
  cases u5
  · go_wp2
    go_ret
    refine ⟨?_, HK5.out.1⟩
    rw [HUV.out, t0']
    rfl
  · go_wp2
    go_ret
    refine ⟨?_, HK5.out.1⟩
    rw [HUV.out, t0']
    rfl
end Go.Proofs.YtohfincnjhemfaaDoor
