/-
  The program's walks over rights and numbers of a thing.
-/
import Derived.Test.YtpahahonopiblaaDoorThgC
import Derived.Test.YtpahahonopiblaaDoorRigK
import Derived.RangeFuncBox
namespace Go.Proofs.YtpahahonopiblaaDoor
open Go.RowKit Go.Shelf
set_option linter.unusedVariables false
attribute [local go_sem] Oper.semAt_some

theorem iter_stops (n : Nat) (hn : 1 ≤ n) (Bs b o c : Nat) (tl : List T8) (hz : tl.length ≤ 1048576) (w0 : World) (hBs : Bs < w0.heap.size)
    (hc : w0.cell? ⟨Bs, 0, none⟩ = some (.slice (some ⟨b, o, none⟩) tl.length c)) (hT : Tb w0 b o tl) :
    SeqStopsK Fence.wide n Tryd.prog 100 #[.pointer (some ⟨Bs, 0, none⟩)] (fun x : R5 => #[rgt x.t x.v x.r x.w x.k]) (Below w0.heap.size) (fun ys => ys = rts tl) (fun pre => pre <+: rts tl) (rts tl).length w0 :=
  fun l J Jx W hW hJ _ hY h0 => iter_in n hn l Bs b o c w0.heap.size tl hz hBs W hW.size J Jx hJ hY ((hW.cell (p := ⟨Bs, 0, none⟩) hBs).trans hc) (fun W' h => hT.stay (hW.trans h)) h0
theorem box_own {β : Type} (b : Nat) (T : TypeId) (cs : Array Value) : Own (fun (_ : β) W => Box W b T cs) := fun s W W' row hs hg hr =>
  (hg.block b (Box.lt hs) (fun e => by
    obtain ⟨o, ho, hc⟩ := hr b e.symm
    rw [show W.heap[b]? = _ from hs] at ho
    cases ho
    simp [Obj.isCells] at hc)).trans hs
theorem keeps_of {B : Nat} {W W' : World} (h : Below W.heap.size W W') : KeepsFrom B W W' := ⟨h.size, fun k o _ hk _ => (h.block k (Array.getElem?_eq_some_iff.1 hk).1).trans hk⟩
theorem tb_one {w : World} {b : Nat} {x : T8} {s q : Sl} (hs : HasR w s x.slots) (hq : HasQ w q x.queue) (hb : Box w b 37 (x.cs s q)) : Tb w b 0 [x] := fun i hi => by
  obtain rfl : i = 0 := by simpa using hi
  exact ⟨s, q, hs, hq, fun j v hv => by simpa using hb.cell j v hv⟩

set_option maxRecDepth 100000 in
set_option maxHeartbeats 4000000 in
theorem rightsOk_any (x : T8) (s q : Sl) (w : World) (hs : HasR w s x.slots) (hq : HasQ w q x.queue) :
    Calls Tryd.prog 98 #[x.val s q] w fun e w' => e = .returned (.bool ((rts [x]).all R5.ok)) ∧ Below w.heap.size w w' := by
  refine (callsIn_wide (n := 9)).1 ?_
  obtain ⟨W0, hW0⟩ : ∃ W0, (((w.alloc (.cells (x.cs s q) 37)).alloc (.cells #[.bool false] 4)).alloc (.cells (x.cs s q) 37)).alloc (.cells #[.slice (some ⟨w.heap.size + 2, 0, none⟩) 1 1] 25) = W0 := ⟨_, rfl⟩
  have hsz : W0.heap.size = w.heap.size + 4 := by rw [← hW0]; simp
  have hB0 : Below w.heap.size w W0 := by
    rw [← hW0]; exact ((((Below.refl _ w).alloc (Nat.le_refl _) _).alloc (by simp) _).alloc (by simp; omega) _).alloc (by simp; omega) _
  have bR : Box W0 (w.heap.size + 1) 4 #[.bool false] := by
    rw [← hW0]
    have := Box.fresh (w.alloc (.cells (x.cs s q) 37)) 4 #[.bool false]
    simp only [World.size_alloc] at this
    exact (this.past _).past _
  have bT : Box W0 (w.heap.size + 2) 37 (x.cs s q) := by
    rw [← hW0]
    have := Box.fresh ((w.alloc (.cells (x.cs s q) 37)).alloc (.cells #[.bool false] 4)) 37 (x.cs s q)
    simp only [World.size_alloc] at this
    exact this.past _
  have bS : Box W0 (w.heap.size + 3) 25 #[.slice (some ⟨w.heap.size + 2, 0, none⟩) 1 1] := by
    rw [← hW0]
    have := Box.fresh (((w.alloc (.cells (x.cs s q) 37)).alloc (.cells #[.bool false] 4)).alloc (.cells (x.cs s q) 37)) 25 #[.slice (some ⟨w.heap.size + 2, 0, none⟩) 1 1]
    simp only [World.size_alloc] at this
    exact this
  have HSQ := Lib.hid (iter_stops 8 (by omega) (w.heap.size + 3) (w.heap.size + 2) 0 1 [x] (by simp) W0 (by omega) (bS.cell 0 _ rfl) (tb_one (hs.stay hB0) (hq.stay hB0) bT))
  have HB0 := Lib.hid hB0
  have HR := Lib.hid bR
  clear hs hq hB0 bR bT bS
  refine callsIn_of_wp_marks Tryd.func98 rfl trivial ?_ rfl
  simp only [Tryd.ntmps98, List.size_toArray, List.length_cons, List.length_nil, Nat.reduceAdd, Nat.reduceSub, Array.replicate_succ, Array.replicate_zero, List.push_toArray, List.append_toArray, List.nil_append, List.cons_append]
  gi_wp2_with fail
  refine ⟨trivial, ?_⟩
  refine (callsIn_wide.2 (rightsOf_any _ _ _ _)).mono ?_
  rintro e w' ⟨rfl, rfl⟩
  gi_wp2_with fail
  refine wpIn_rangeFunc_ownH rfl (by omega) (gf := 100) (lb := #[.pointer (some ⟨w.heap.size + 3, 0, none⟩)]) rfl trivial (enters_of Tryd.func100 (by kernel_rfl) rfl)
    HSQ.out belowK_t (belowK_b (Nat.le_refl _)) (Below.refl _ _) (fun _ => rfl)
    (fun pre W => ((∀ r ∈ pre, R5.ok r = true) ∧ Box W (w.heap.size + 1) 4 #[.bool false]) ∧ Below w.heap.size W0 W)
    (fun c pre W => ((c = .ret ∧ ∃ r ∈ pre, R5.ok r = false) ∧ Box W (w.heap.size + 1) 4 #[.bool false]) ∧ Below w.heap.size W0 W)
    (OwnFrom.and (OwnFrom.and (ownFrom_pure _ _) (Own.from (box_own _ _ _) _)) (ownFrom_below (by omega) (by omega)))
    (fun c => OwnFrom.and (OwnFrom.and (ownFrom_pure _ _) (Own.from (box_own _ _ _) _)) (ownFrom_below (by omega) (by omega)))
    ⟨⟨by simp, HR.out⟩, Below.refl _ _⟩
    (fun r a' W => ∃ Bx, w.heap.size + 1 < Bx ∧ Box W Bx 44 r.cs ∧ a' = { tmps := #[x.val s q, .pointer (some ⟨w.heap.size, 0, none⟩), .pointer (some ⟨w.heap.size + 1, 0, none⟩), .pointer (some ⟨Bx, 0, none⟩), x.val s q, .slice (some ⟨w.heap.size + 2, 0, none⟩) 1 1, .func (.func 100) #[] #[.pointer (some ⟨w.heap.size + 3, 0, none⟩)], rgt r.t r.v r.r r.w r.k, undef, undef, undef], defers := [] })
    (fun r a' _ X Y row hs hg hr => by obtain ⟨Bx, e1, e2, e3⟩ := hs; exact ⟨Bx, e1, box_own Bx 44 r.cs () X Y row e2 hg (fun r e => (hr r e).2), e3⟩)
    ?assign ?body ?done ?stop
  case assign =>
    rintro l pre r W K ⟨⟨hp, bR1⟩, hB1⟩ hK
    have HI := Lib.hid (And.intro (And.intro hp bR1) hB1)
    clear hp bR1 hB1
    gi_wp2
    exact hK _ _ (keeps_of ((Below.refl _ _).alloc (Nat.le_refl _) _)) (((Below.refl _ W).alloc (Nat.le_refl _) _).mono HI.out.2.size) ⟨⟨HI.out.1.1, HI.out.1.2.past _⟩, HI.out.2.alloc (by have := HI.out.2.size; omega) _⟩ ⟨W.heap.size, HI.out.1.2.lt, Box.fresh W 44 _, rfl⟩
  case body =>
    rintro l pre r a' W hl ⟨rr, hr⟩ ⟨⟨hp, bR1⟩, hB1⟩ ⟨Bx, hBx, bX, rfl⟩ hlt
    have c0 := bX.cell 0 _ rfl
    have c1 := bX.cell 1 _ rfl
    have c2 := bX.cell 2 _ rfl
    have c3 := bX.cell 3 _ rfl
    have c4 := bX.cell 4 _ rfl
    have HI := Lib.hid (And.intro (And.intro hp bR1) hB1)
    clear hp bR1 hB1 bX hlt hr
    cases ho : R5.ok r
    · have HO := Lib.hid ho
      clear ho
      gi_wp2_with fail
      refine ⟨trivial, ?_⟩
      refine (CallsIn.inRound l (callsIn_wide.2 (implROk_val HO.out _))).mono ?_
      rintro e y ⟨rfl, hb⟩
      have bR2 := HI.out.1.2.stay hb
      have cR := bR2.cell 0 _ rfl
      have fR := bR2.thaw 0
      have HB := Lib.hid hb
      have HR2 := Lib.hid bR2
      clear hb bR2 c0 c1 c2 c3 c4
      gi_wp2
      exact ⟨(keeps_of HB.out).trans ((KeepsOthers.setCell _ _ _).from _), ⟨⟨rfl, r, by simp, HO.out⟩, by have := HR2.out.put 0 (.bool false); simpa using this⟩, (goB2 HI.out.2 (by have := HI.out.2.size; omega) HB.out).setCell (p := ⟨w.heap.size + 1, 0, none⟩) (by simp) _⟩
    · have HO := Lib.hid ho
      clear ho
      gi_wp2_with fail
      refine ⟨trivial, ?_⟩
      refine (CallsIn.inRound l (callsIn_wide.2 (implROk_val HO.out _))).mono ?_
      rintro e y ⟨rfl, hb⟩
      have HB := Lib.hid hb
      clear hb c0 c1 c2 c3 c4
      gi_wp2
      exact ⟨keeps_of HB.out, HB.out.mono HI.out.2.size, ⟨fun z hz => (List.mem_append.1 hz).elim (HI.out.1.1 z) (fun e => by simp at e; subst e; exact HO.out), HI.out.1.2.stay HB.out⟩, goB2 HI.out.2 (by have := HI.out.2.size; omega) HB.out⟩
  case done =>
    rintro D zs W hD rfl ⟨⟨hp, bR1⟩, hB1⟩ hK
    have cR := bR1.cell 0 _ rfl
    have fR := bR1.thaw 0
    have HR1 := Lib.hid bR1
    have HP := Lib.hid hp
    clear bR1 hp
    gi_wp2
    have hK' := (KeepsOthers.setCell W ⟨w.heap.size + 1, 0, none⟩ (.bool true)).same D _ hK rfl
    refine ⟨by simp, .inl ⟨_, _, rfl, run_takeDeferred hK', ?_⟩⟩
    have hc5 := cell_kept (World.cell?_setCell_same' W ⟨w.heap.size + 1, 0, none⟩ (.bool true) (by rw [cR]; rfl)) (grownBy_putObj' _ D (.deferred none)) (fun r e => by cases e; exact ⟨_, hK', rfl⟩)
    refine ⟨.bool true, ?_, by rw [List.all_eq_true.2 HP.out], HB0.out.trans <| (hB1.setCell (p := ⟨w.heap.size + 1, 0, none⟩) (by simp) _).trans (belowK_b (w := w) (Nat.le_refl _) _ D _ _ (by omega) hK' rfl rfl)⟩
    simp [results, Tryd.results98, go_sem, hc5]
  case stop =>
    rintro D c pre W hD hpre ⟨⟨⟨rfl, r, hr, hbad⟩, bR1⟩, hB1⟩ hK
    gi_wp2
    refine ⟨by simp, .inl ⟨_, _, rfl, run_takeDeferred hK, ?_⟩⟩
    have hc5 := cell_kept (bR1.cell 0 _ rfl) (grownBy_putObj' _ D (.deferred none)) (fun r e => by cases e; exact ⟨_, hK, rfl⟩)
    refine ⟨.bool false, ?_, by rw [List.all_eq_false.2 ⟨r, hpre.subset hr, by simp [hbad]⟩], HB0.out.trans <| hB1.trans (belowK_b (w := w) (Nat.le_refl _) W D _ _ (by omega) hK rfl rfl)⟩
    simp [results, Tryd.results98, go_sem, hc5]
end Go.Proofs.YtpahahonopiblaaDoor
