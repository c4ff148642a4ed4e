/-
  The walk over a thing's rights, where the body writes one block of the caller's.
-/
import Derived.Test.YtpahahonopiblaaDoorThgD
namespace Go.Proofs.YtpahahonopiblaaDoor
open Go.RowKit Go.Shelf
set_option linter.unusedVariables false
attribute [local go_sem] Oper.semAt_some

/-- All blocks below n stay, but one. -/
def KpB (n b : Nat) (A B : World) : Prop := A.heap.size ≤ B.heap.size ∧ ∀ j, j < A.heap.size → j < n → j ≠ b → B.heap[j]? = A.heap[j]?
theorem KpB.refl (n b : Nat) (A : World) : KpB n b A A := ⟨Nat.le_refl _, fun _ _ _ _ => rfl⟩
theorem KpB.trans {n b : Nat} {A B C : World} (h : KpB n b A B) (k : KpB n b B C) : KpB n b A C := ⟨Nat.le_trans h.1 k.1, fun j h1 h2 h3 => (k.2 j (Nat.lt_of_lt_of_le h1 h.1) h2 h3).trans (h.2 j h1 h2 h3)⟩
theorem KpB.below {n b : Nat} {A B : World} (h : Below A.heap.size A B) : KpB n b A B := ⟨h.size, fun j h1 _ _ => h.block j h1⟩
theorem KpB.put {n b : Nat} (W : World) (l : Nat) (o' : Obj) (hl : n ≤ l) : KpB n b W (W.putObj l o') :=
  ⟨by simp, fun j _ h2 _ => World.putObj_heap_other (by omega)⟩
theorem KpB.set {n b o : Nat} (W : World) (v : Value) : KpB n b W (W.setCell ⟨b, o, none⟩ v) :=
  ⟨by simp [World.setCell], fun j _ _ h3 => Below.heap_setCell W ⟨b, o, none⟩ v j h3⟩
theorem At.keepB {n b b' o : Nat} {W W' : World} {cs : Array Value} (h : At W b' o cs) (hk : KpB n b W W') (hn : W.heap.size ≤ n) (hne : b' ≠ b) : At W' b' o cs := fun j v hv => by
  have h1 := h j v hv
  have h2 := cell_lt h1
  unfold World.cell? at h1 ⊢
  dsimp only at h1 ⊢
  rw [hk.2 b' h2 (Nat.lt_of_lt_of_le h2 hn) hne]
  exact h1
theorem At.ne_str {b b' o : Nat} {W : World} {cs : Array Value} {T : TypeId} {t : ByteArray} {n : Int} (h : At W b' o cs) (h0 : cs[0]? = some (.int .i64 n)) (hb : Box W b T #[.string t]) : b' ≠ b := fun e => by
  subst e
  have h1 := h 0 _ h0
  rw [hb.at] at h1
  cases o with
  | zero => simp at h1
  | succ o => simp at h1
theorem HasR.keepB {n b : Nat} {W W' : World} {s : Sl} {l : List R5} {T : TypeId} {t : ByteArray} (h : HasR W s l) (hk : KpB n b W W') (hn : W.heap.size ≤ n) (hb : Box W b T #[.string t]) : HasR W' s l := by
  obtain ⟨h1, h2, h3⟩ := h
  refine ⟨h1, h2, ?_⟩
  rcases h3 with h3 | ⟨b', o, e, h3⟩
  · exact .inl h3
  · exact .inr ⟨b', o, e, fun i x hx => (h3 i x hx).keepB hk hn (by
      obtain ⟨r, hr, rfl⟩ : ∃ r, l[i]? = some r ∧ r.cs = x := by simpa using hx
      exact (h3 i _ hx).ne_str rfl hb)⟩
theorem HasQ.keepB {n b : Nat} {W W' : World} {s : Sl} {l : List Int} {T : TypeId} {t : ByteArray} (h : HasQ W s l) (hk : KpB n b W W') (hn : W.heap.size ≤ n) (hb : Box W b T #[.string t]) : HasQ W' s l := by
  obtain ⟨h1, h2, h3⟩ := h
  refine ⟨h1, h2, ?_⟩
  rcases h3 with h3 | ⟨b', o, e, h3⟩
  · exact .inl h3
  · exact .inr ⟨b', o, e, fun i x hx => (h3 i x hx).keepB hk hn (by
      obtain ⟨r, hr, rfl⟩ : ∃ r, l[i]? = some r ∧ #[Value.int .i64 r] = x := by simpa using hx
      exact (h3 i _ hx).ne_str rfl hb)⟩
theorem Tb.keepB {n b b' o : Nat} {W W' : World} {l : List T8} {T : TypeId} {t : ByteArray} (h : Tb W b' o l) (hk : KpB n b W W') (hn : W.heap.size ≤ n) (hb : Box W b T #[.string t]) : Tb W' b' o l := fun i hi => by
  obtain ⟨ss, qs, h1, h2, h3⟩ := h i hi
  exact ⟨ss, qs, h1.keepB hk hn hb, h2.keepB hk hn hb, h3.keepB hk hn (h3.ne_str rfl hb)⟩

set_option maxRecDepth 100000 in
set_option maxHeartbeats 4000000 in
theorem iter_inK (Kp : World → World → Prop) (kr : ∀ A, Kp A A) (kt : ∀ A B C, Kp A B → Kp B C → Kp A C) (kb : ∀ A B, Below A.heap.size A B → Kp A B) (n : Nat) (hn : 1 ≤ n) (l Bs b o c : Nat) (tl : List T8) (hz : tl.length ≤ 1048576) (W : World)
    (J Jx : List R5 → World → Prop) (hJ : AbidesFrom W.heap.size J)
    (hY : ∀ pre x W1, J pre W1 → pre.length < (rts tl).length → YieldAt Fence.wide (n - 1) Tryd.prog l #[rgt x.t x.v x.r x.w x.k] W1 fun e W' =>
      (e = .returned (.bool true) ∧ J (pre ++ [x]) W' ∧ Kp W1 W') ∨ (e = .returned (.bool false) ∧ Jx (pre ++ [x]) W'))
    (hc : W.cell? ⟨Bs, 0, none⟩ = some (.slice (some ⟨b, o, none⟩) tl.length c)) (hT : ∀ W', Kp W W' → Tb W' b o tl) (h0 : J [] W) :
    CallsIn Fence.wide n Tryd.prog 100 #[.func (.yield l) #[] #[], .pointer (some ⟨Bs, 0, none⟩)] W fun e W' => (∃ v, e = .returned v) ∧
      ((∃ ys, ys = rts tl ∧ J ys W') ∨ (∃ pre, pre <+: rts tl ∧ Jx pre W')) := by
  have KR := Lib.hid kr
  have KT := Lib.hid kt
  have KB := Lib.hid kb
  clear kr kt kb
  have HT := Lib.hid hT
  have HJ := Lib.hid hJ
  have HY := Lib.hid hY
  have H0 := Lib.hid h0
  clear hT hJ hY h0
  refine callsIn_of_wp Tryd.func100 rfl trivial ?_ rfl
  simp only [Tryd.ntmps100, List.size_toArray, List.length_cons, List.length_nil, Nat.reduceAdd, Nat.reduceSub, Array.replicate_succ, Array.replicate_zero, List.push_toArray, List.append_toArray, List.nil_append, List.cons_append]
  gi_wp2
  clear hc
  gi_loopw [11] (fun i wr => ∃ k : Nat, k ≤ tl.length ∧ i = .int .i64 k ∧ J (rts (tl.take k)) wr ∧ Kp W wr) (fun i _ => tl.length - (intOf i).toNat)
  case atStart => exact ⟨0, Nat.zero_le _, rfl, H0.out, KR.out _⟩
  case round =>
    obtain ⟨k, hk, rfl, hJs, hnx⟩ := hrel
    have HJs := Lib.hid hJs
    have HN := Lib.hid hnx
    clear hJs hnx
    by_cases hlt : k < tl.length
    · have hlt' : (k : Int) < (tl.length : Int) := by omega
      obtain ⟨ss, qs, hR, hQ, hA⟩ := HT.out wr HN.out k hlt
      have hlt2 := cell_lt (hA 0 _ rfl)
      have HR := Lib.hid hR
      have HX := Lib.hid (rts_succ tl k hlt)
      have HL := Lib.hid (rts_len tl k)
      have HS := Lib.hid (rts_pre tl (k + 1))
      clear hQ
      generalize hx : tl[k] = x at *
      have HXX := Lib.hid hx
      clear hx
      have d0 : wr.cell? ⟨b, o + k * 8, none⟩ = some (.int .i64 x.kind) := hA 0 _ rfl
      have d1 := hA 1 _ rfl
      have d2 := hA 2 _ rfl
      have d3 := hA 3 _ rfl
      have d4 := hA 4 _ rfl
      have d5 := hA 5 _ rfl
      have d6 := hA 6 _ rfl
      have d7 := hA 7 _ rfl
      have hB1 : Below wr.heap.size wr (wr.alloc (.cells (x.cs ss qs) 37)) := (Below.refl _ _).alloc (Nat.le_refl _) _
      have HB1 := Lib.hid hB1
      clear hA hB1 hR
      by_cases h4 : x.slots.length = 4
      · obtain ⟨a1, a2, a3, a4, hxs⟩ : ∃ a1 a2 a3 a4, x.slots = [a1, a2, a3, a4] := by
          match hm : x.slots, h4 with
          | [a1, a2, a3, a4], _ => exact ⟨_, _, _, _, rfl⟩
        have HC := Lib.hid (slotsOf_yes x ss qs a1 a2 a3 a4 _ hxs (HR.out.stay HB1.out))
        have HX4 := Lib.hid h4
        have HXS := Lib.hid hxs
        clear h4 hxs
        gi_wp2_with fail
        refine ⟨trivial, ?_⟩
        refine (callsIn_wide.2 HC.out).mono ?_
        rintro e y1 ⟨rfl, hb⟩
        have HB2 := Lib.hid (goB HB1.out hb)
        clear hb d0 d1 d2 d3 d4 d5 d6 d7 HC
        gi_wp2_with (first
          | refine wpListIn_store_rowTo rfl 89 (.tmp 5) (.tmp 18) rfl rfl y1.heap.size (sl20 a1 a2 a3 a4) rfl rfl 89 zr20 (Box.fresh y1 89 zr20) infoS rfl (one20 a1 a2 a3 a4) ?_
          | refine wpListIn_load_row rfl 89 (.tmp 5) rfl y1.heap.size rfl 89 (sl20 a1 a2 a3 a4) (0, 0) _ (setRow_box (Box.fresh y1 89 zr20) (sl20 a1 a2 a3 a4)) Tryd.underlying89 rfl infoS ?_)
        have hB3 : Below wr.heap.size wr ((y1.alloc (.cells zr20 89)).setRow y1.heap.size (sl20 a1 a2 a3 a4)) := (HB2.out.alloc HB2.out.size _).trans (setRow_below HB2.out.size _)
        have HB3 := Lib.hid hB3
        clear hB3
        generalize (y1.alloc (.cells zr20 89)).setRow y1.heap.size (sl20 a1 a2 a3 a4) = y2 at *
        gi_loopw [23] (fun i wr2 => ∃ m : Nat, m ≤ 4 ∧ i = .int .i64 m ∧ J (rts (tl.take k) ++ [a1, a2, a3, a4].take m) wr2 ∧ Kp W wr2) (fun i _ => 4 - (intOf i).toNat)
        case atStart => exact ⟨0, by omega, rfl, by simpa using abides HJ.out HJs.out HB3.out, KT.out _ _ _ HN.out (KB.out _ _ HB3.out)⟩
        case round =>
          obtain ⟨m, hm, rfl, hJm, hnm⟩ := hrel
          have HJm := Lib.hid hJm
          have HNm := Lib.hid hnm
          clear hJm hnm
          have hcase : m = 0 ∨ m = 1 ∨ m = 2 ∨ m = 3 ∨ m = 4 := by omega
          clear hm
          rcases hcase with rfl | rfl | rfl | rfl | rfl
          · have HB4 := Lib.hid (show Below wr.heap.size wr (wr.alloc (.cells a1.cs 44)) from (Below.refl _ _).alloc (Nat.le_refl _) _)
            obtain ⟨fn, tmps, assign, body, hy, hR⟩ := HY.out (rts (tl.take k) ++ []) a1 (wr.alloc (.cells a1.cs 44)) (abides HJ.out (by simpa using HJm.out) HB4.out) (HL.out 0 hlt (by rw [HXX.out]; exact HX4.out) (by omega) _ rfl)
            have HRR := Lib.hid hR
            have hix := idx0 a1 a2 a3 a4
            clear hR
            gi_wp2
            refine HRR.out.mono ?_
            rintro e W3 (⟨rfl, hJ3, hk3⟩ | ⟨rfl, hJx3⟩)
            · clear hy HRR hix
              gi_wp2
              go_roundw
              case rel => exact ⟨1, by omega, by simp, by simpa using hJ3, KT.out _ _ _ (KT.out _ _ _ HNm.out (KB.out _ _ HB4.out)) hk3⟩
              case measure => simp [intOf]
            · clear hy HRR hix
              gi_wp2
              refine bodyPost_ret (results_none rfl _ _ _) rfl ?_
              refine ⟨⟨_, rfl⟩, .inr ⟨_, ?_, hJx3⟩⟩
              refine List.IsPrefix.trans ?_ HS.out
              rw [HX.out]
              simp [rtsX, HXS.out]
          · have HB4 := Lib.hid (show Below wr.heap.size wr (wr.alloc (.cells a2.cs 44)) from (Below.refl _ _).alloc (Nat.le_refl _) _)
            obtain ⟨fn, tmps, assign, body, hy, hR⟩ := HY.out (rts (tl.take k) ++ [a1]) a2 (wr.alloc (.cells a2.cs 44)) (abides HJ.out (by simpa using HJm.out) HB4.out) (HL.out 1 hlt (by rw [HXX.out]; exact HX4.out) (by omega) _ rfl)
            have HRR := Lib.hid hR
            have hix := idx1 a1 a2 a3 a4
            clear hR
            gi_wp2
            refine HRR.out.mono ?_
            rintro e W3 (⟨rfl, hJ3, hk3⟩ | ⟨rfl, hJx3⟩)
            · clear hy HRR hix
              gi_wp2
              go_roundw
              case rel => exact ⟨2, by omega, by simp, by simpa using hJ3, KT.out _ _ _ (KT.out _ _ _ HNm.out (KB.out _ _ HB4.out)) hk3⟩
              case measure => simp [intOf]
            · clear hy HRR hix
              gi_wp2
              refine bodyPost_ret (results_none rfl _ _ _) rfl ?_
              refine ⟨⟨_, rfl⟩, .inr ⟨_, ?_, hJx3⟩⟩
              refine List.IsPrefix.trans ?_ HS.out
              rw [HX.out]
              simp [rtsX, HXS.out]
          · have HB4 := Lib.hid (show Below wr.heap.size wr (wr.alloc (.cells a3.cs 44)) from (Below.refl _ _).alloc (Nat.le_refl _) _)
            obtain ⟨fn, tmps, assign, body, hy, hR⟩ := HY.out (rts (tl.take k) ++ [a1, a2]) a3 (wr.alloc (.cells a3.cs 44)) (abides HJ.out (by simpa using HJm.out) HB4.out) (HL.out 2 hlt (by rw [HXX.out]; exact HX4.out) (by omega) _ rfl)
            have HRR := Lib.hid hR
            have hix := idx2 a1 a2 a3 a4
            clear hR
            gi_wp2
            refine HRR.out.mono ?_
            rintro e W3 (⟨rfl, hJ3, hk3⟩ | ⟨rfl, hJx3⟩)
            · clear hy HRR hix
              gi_wp2
              go_roundw
              case rel => exact ⟨3, by omega, by simp, by simpa using hJ3, KT.out _ _ _ (KT.out _ _ _ HNm.out (KB.out _ _ HB4.out)) hk3⟩
              case measure => simp [intOf]
            · clear hy HRR hix
              gi_wp2
              refine bodyPost_ret (results_none rfl _ _ _) rfl ?_
              refine ⟨⟨_, rfl⟩, .inr ⟨_, ?_, hJx3⟩⟩
              refine List.IsPrefix.trans ?_ HS.out
              rw [HX.out]
              simp [rtsX, HXS.out]
          · have HB4 := Lib.hid (show Below wr.heap.size wr (wr.alloc (.cells a4.cs 44)) from (Below.refl _ _).alloc (Nat.le_refl _) _)
            obtain ⟨fn, tmps, assign, body, hy, hR⟩ := HY.out (rts (tl.take k) ++ [a1, a2, a3]) a4 (wr.alloc (.cells a4.cs 44)) (abides HJ.out (by simpa using HJm.out) HB4.out) (HL.out 3 hlt (by rw [HXX.out]; exact HX4.out) (by omega) _ rfl)
            have HRR := Lib.hid hR
            have hix := idx3 a1 a2 a3 a4
            clear hR
            gi_wp2
            refine HRR.out.mono ?_
            rintro e W3 (⟨rfl, hJ3, hk3⟩ | ⟨rfl, hJx3⟩)
            · clear hy HRR hix
              gi_wp2
              go_roundw
              case rel => exact ⟨4, by omega, by simp, by simpa using hJ3, KT.out _ _ _ (KT.out _ _ _ HNm.out (KB.out _ _ HB4.out)) hk3⟩
              case measure => simp [intOf]
            · clear hy HRR hix
              gi_wp2
              refine bodyPost_ret (results_none rfl _ _ _) rfl ?_
              refine ⟨⟨_, rfl⟩, .inr ⟨_, ?_, hJx3⟩⟩
              refine List.IsPrefix.trans ?_ HS.out
              rw [HX.out]
              simp [rtsX, HXS.out]
          · gi_wp2
            go_roundw
            case rel =>
              refine ⟨k + 1, by omega, by simp, ?_, HNm.out⟩
              rw [HX.out]
              have := HJm.out
              simpa [rtsX, HXS.out] using this
            case measure => simp [intOf]; omega
      · have HC := Lib.hid (slotsOf_no x ss qs (wr.alloc (.cells (x.cs ss qs) 37)) HR.out.len h4)
        have HX4 := Lib.hid h4
        clear h4
        gi_wp2_with fail
        refine ⟨trivial, ?_⟩
        refine (callsIn_wide.2 HC.out).mono ?_
        rintro e y1 ⟨rfl, hb⟩
        have HB2 := Lib.hid (goB HB1.out hb)
        clear hb d0 d1 d2 d3 d4 d5 d6 d7 HC
        gi_wp2_with (first
          | refine wpListIn_store_rowTo rfl 89 (.tmp 5) (.tmp 18) rfl rfl y1.heap.size zr20 rfl rfl 89 zr20 (Box.fresh y1 89 zr20) infoS rfl (one20 ⟨0, 0, false, false, false⟩ ⟨0, 0, false, false, false⟩ ⟨0, 0, false, false, false⟩ ⟨0, 0, false, false, false⟩) ?_)
        have hB3 : Below wr.heap.size wr ((y1.alloc (.cells zr20 89)).setRow y1.heap.size zr20) := (HB2.out.alloc HB2.out.size _).trans (setRow_below HB2.out.size _)
        go_roundw
        case rel =>
          refine ⟨k + 1, by omega, by simp, ?_, KT.out _ _ _ HN.out (KB.out _ _ hB3)⟩
          rw [HX.out]
          simpa [rtsX, HX4.out] using abides HJ.out HJs.out hB3
        case measure => simp [intOf]; omega
    · have hlt' : ¬ (k : Int) < (tl.length : Int) := by omega
      have HE := Lib.hid (show k = tl.length by omega)
      gi_wp2
      go_end0
      refine ⟨⟨_, rfl⟩, .inl ?_⟩
      have := HJs.out
      rw [HE.out] at this
      simpa using this

theorem iter_stopsB (n : Nat) (hn : 1 ≤ n) (Bs b o c bt : Nat) (tl : List T8) (hz : tl.length ≤ 1048576) (w0 : World) (T : TypeId) (t : ByteArray) (hBt : Box w0 bt T #[.string t])
    (hc : w0.cell? ⟨Bs, 0, none⟩ = some (.slice (some ⟨b, o, none⟩) tl.length c)) (hT : Tb w0 b o tl) :
    SeqStopsK Fence.wide n Tryd.prog 100 #[.pointer (some ⟨Bs, 0, none⟩)] (fun x : R5 => #[rgt x.t x.v x.r x.w x.k]) (KpB w0.heap.size bt) (fun ys => ys = rts tl) (fun pre => pre <+: rts tl) (rts tl).length w0 :=
  fun l J Jx W hW hJ _ hY h0 => iter_inK (KpB w0.heap.size bt) (KpB.refl _ _) (fun _ _ _ => KpB.trans) (fun _ _ => KpB.below) n hn l Bs b o c tl hz W J Jx hJ hY (stayCell hc hW) (fun W' h => hT.keepB ((KpB.below hW).trans h) (Nat.le_refl _) hBt) h0
end Go.Proofs.YtpahahonopiblaaDoor
