/-
  The program's TableOk.
-/
import Derived.Test.YtpahahonopiblaaDoorThgG
import Derived.Test.YtpahahonopiblaaDoorTabL
namespace Go.Proofs.YtpahahonopiblaaDoor
open Go.RowKit Go.Shelf
set_option linter.unusedVariables false
attribute [local go_sem] Oper.semAt_some

set_option maxHeartbeats 4000000 in
theorem hasBeen_zero (l : List T8) (a : Option Addr) (c : Nat) (v : Int) (r wr k : Bool) (w : World) (hn : nullR 0 v r wr k = false) :
    Calls Tryd.prog 62 #[.slice a l.length c, rgt 0 v r wr k] w fun e w' => e = .returned (.bool false) ∧ Below w.heap.size w w' := by
  have HB := Lib.hid (show Below w.heap.size w (w.alloc (.cells (rgtC 0 v r wr k) 44)) from (Below.refl _ _).alloc (Nat.le_refl _) _)
  have HC := Lib.hid (fun w => thingAt_no 0 l.length a c (by simp [inR]) w)
  by_cases hv : v = 0
  · subst hv
    cases r <;> cases wr <;> cases k
    · exact absurd hn (by decide)
    all_goals
      clear hn
      go_enter Tryd.func62, Tryd.ntmps62
      go_wp2_with fail
      refine (HC.out _).mono ?_
      rintro e y ⟨rfl, hb⟩
      have HB2 := Lib.hid (goB HB.out hb)
      clear hb
      go_wp2
      go_ret
      exact ⟨rfl, HB2.out.alloc HB2.out.size _⟩
  · have hv' : (v == 0) = false := by simpa using hv
    clear hn hv
    go_enter Tryd.func62, Tryd.ntmps62
    go_wp2_with fail
    refine (HC.out _).mono ?_
    rintro e y ⟨rfl, hb⟩
    have HB2 := Lib.hid (goB HB.out hb)
    clear hb
    go_wp2
    go_ret
    exact ⟨rfl, HB2.out.alloc HB2.out.size _⟩
theorem hasBeen_any (l : List T8) (b o c : Nat) (r : R5) (w : World) (ht : Tb w b o l) (hz : l.length ≤ 1048576) :
    Calls Tryd.prog 62 #[.slice (some ⟨b, o, none⟩) l.length c, rgt r.t r.v r.r r.w r.k] w fun e w' => e = .returned (.bool (beenB l r)) ∧ Below w.heap.size w w' := by
  by_cases h0 : r.t = 0
  · cases hn : nullR r.t r.v r.r r.w r.k
    · have hb : beenB l r = false := by unfold beenB; rw [hn, h0]; simp [inR]
      rw [hb]
      rw [h0] at hn ⊢
      exact hasBeen_zero l _ c _ _ _ _ w hn
    · exact hasBeen_null l _ c r w hn
  · exact hasBeen_some l b o c r w ht hz h0
theorem hasBeen_val {l : List T8} {b o c : Nat} {r : R5} {v : Bool} (h : beenB l r = v) (w : World) (ht : Tb w b o l) (hz : l.length ≤ 1048576) :
    Calls Tryd.prog 62 #[.slice (some ⟨b, o, none⟩) l.length c, rgt r.t r.v r.r r.w r.k] w fun e w' => e = .returned (.bool v) ∧ Below w.heap.size w w' := by
  subst h; exact hasBeen_any l b o c r w ht hz
theorem implTOk_val {x : T8} {s q : Sl} {v : Bool} (h : okT x = v) (w : World) (hs : HasR w s x.slots) (hq : HasQ w q x.queue) (hf : KF w) :
    Calls Tryd.prog 59 #[x.val s q] w fun e w' => e = .returned (.bool v) ∧ Below w.heap.size w w' := by
  subst h; exact implTOk_any x s q w hs hq hf
theorem targetOk_val {l : List T8} {b o c : Nat} {x : T8} {s q : Sl} {v : Bool} (h : targB l x = v) (w : World) (ht : Tb w b o l) (hz : l.length ≤ 1048576) :
    Calls Tryd.prog 60 #[.slice (some ⟨b, o, none⟩) l.length c, x.val s q] w fun e w' => e = .returned (.bool v) ∧ Below w.heap.size w w' := by
  subst h; exact targetOk_any l b o c x s q w ht hz

/-! A table, as the program asks. -/
theorem gate_targ {l : List T8} {x : T8} (h : okT x = true) : gateOk l x = targB l x := by
  by_cases h5 : x.kind = 5
  · obtain ⟨p1, p2⟩ := okT_to h h5
    by_cases hl : (l.length : Int) < x.to
    · have : inR x.to 1 l.length = false := by simp [inR]; omega
      simp [gateOk, targB, h5, hl, this]
    · have : inR x.to 1 l.length = true := by simp [inR]; omega
      simp [gateOk, targB, h5, hl, this]
      cases hk : (kindAt l (x.to - 1) == 1) <;> simp_all
  · have h5' : (x.kind == 5) = false := by simpa using h5
    simp [gateOk, targB, h5']
theorem right_been {l : List T8} {r : R5} (h : r.ok = true) : rightIn l r = beenB l r := by
  obtain ⟨p1, p2⟩ := R5.bd h
  by_cases h0 : r.t = 0
  · have h' : okR r.t r.v r.r r.w r.k = true := h
    rw [h0] at h'
    obtain ⟨e1, e2, e3, e4⟩ := okR_null h'
    have hn : nullR r.t r.v r.r r.w r.k = true := by rw [h0, e1, e2, e3, e4]; rfl
    have e1' : rightIn l r = true := by simp [rightIn, h0]
    rw [e1']; simp [beenB, hn]
  · have hn : nullR r.t r.v r.r r.w r.k = false := by simp [nullR, h0]
    by_cases hl : (l.length : Int) < r.t
    · have : inR r.t 1 l.length = false := by simp [inR]; omega
      simp [rightIn, beenB, hn, hl, this]
    · have h1 : inR r.t 1 l.length = true := by simp [inR]; omega
      have h2 : (0 : Int) < r.t := by omega
      simp [rightIn, beenB, hn, hl, h1, h2]
      rw [Bool.eq_iff_iff]; simp
theorem okT_rts {x : T8} (h : okT x = true) : rtsX x = x.slots := by
  by_cases h4 : x.slots.length = 4
  · simp [rtsX, h4]
  · simp only [okT, okT3, Bool.and_eq_true] at h
    have h3 := h.2.2.2.2.1
    split at h3
    · have : (x.slots.length : Int) = 4 := by simpa using h3
      omega
    · have : (x.slots.length : Int) = 0 := by simpa using h3
      have e : x.slots = [] := List.length_eq_zero_iff.1 (by omega)
      simp [rtsX, e]
def tabI (l : List T8) : Bool := inR l.length 1 8 && (l.all (fun x => okT x && targB l x) && (rts l).all (beenB l))
theorem tab_eq (l : List T8) : tabOk l = tabI l := by
  unfold tabOk tabI
  rw [Bool.and_comm]
  congr 1
  cases h1 : l.all (fun x => okT x && targB l x)
  · simp only [Bool.false_and]
    obtain ⟨x, hx, hb⟩ := List.all_eq_false.1 h1
    refine List.all_eq_false.2 ⟨x, hx, ?_⟩
    intro he
    simp only [elemOk, Bool.and_eq_true] at he
    rw [gate_targ he.1] at he
    simp [he.1, he.2.1] at hb
  · simp only [Bool.true_and]
    rw [List.all_eq_true] at h1
    rw [Bool.eq_iff_iff, List.all_eq_true, List.all_eq_true]
    constructor
    · intro h r hr
      obtain ⟨x, hx, hrx⟩ := List.mem_flatMap.1 hr
      have hok : okT x = true := by have := h1 x hx; simp at this; exact this.1
      rw [okT_rts hok] at hrx
      have he := h x hx
      simp only [elemOk, Bool.and_eq_true, List.all_eq_true] at he
      obtain ⟨j, hj, rfl⟩ := List.getElem_of_mem hrx
      rw [← right_been (okT_right hok hj)]
      exact he.2.2 _ (List.getElem_mem hj)
    · intro h x hx
      have hh := h1 x hx
      simp only [Bool.and_eq_true] at hh
      simp only [elemOk, Bool.and_eq_true, List.all_eq_true]
      refine ⟨hh.1, by rw [gate_targ hh.1]; exact hh.2, fun r hr => ?_⟩
      obtain ⟨j, hj, rfl⟩ := List.getElem_of_mem hr
      rw [right_been (okT_right hh.1 hj)]
      exact h _ (List.mem_flatMap.2 ⟨x, hx, by rw [okT_rts hh.1]; exact hr⟩)

set_option maxRecDepth 100000 in
set_option maxHeartbeats 8000000 in
theorem implTabOk_ne (l : List T8) (b o c : Nat) (w : World) (ht : Tb w b o l) (hf : KF w) (hz : l.length ≤ 1048576) :
    Calls Tryd.prog 23 #[.slice (some ⟨b, o, none⟩) l.length c] w fun e w' => e = .returned (.bool (tabI l)) ∧ Below w.heap.size w w' := by
  refine (callsIn_wide (n := 9)).1 ?_
  have K0 := ((Kn.refl (w := w)).new 25 #[.slice (some ⟨b, o, none⟩) l.length c]).new 4 #[.bool false]
  simp only [World.size_alloc] at K0
  have HK := Lib.hid K0
  have HT := Lib.hid ht
  have HF := Lib.hid hf
  clear K0 ht hf
  refine callsIn_of_wp_marks Tryd.func23 rfl trivial ?_ rfl
  simp only [Tryd.ntmps23, List.size_toArray, List.length_cons, List.length_nil, Nat.reduceAdd, Nat.reduceSub, Array.replicate_succ, Array.replicate_zero, List.push_toArray, List.append_toArray, List.nil_append, List.cons_append]
  by_cases h1 : l.length < 1
  · have h1' : (l.length : Int) < 1 := by omega
    have HA := Lib.hid (show tabI l = false by simp [tabI, inR]; omega)
    clear h1
    gi_wp2
    exact ⟨.bool false, by simp [results, Tryd.results23, go_sem], by rw [HA.out], HK.out.1⟩
  by_cases h8 : 8 < l.length
  · have h1' : ¬ (l.length : Int) < 1 := by omega
    have h8' : (8 : Int) < l.length := by omega
    have HA := Lib.hid (show tabI l = false by simp [tabI, inR]; omega)
    clear h1 h8
    gi_wp2
    exact ⟨.bool false, by simp [results, Tryd.results23, go_sem], by rw [HA.out], HK.out.1⟩
  have h1' : ¬ (l.length : Int) < 1 := by omega
  have h8' : ¬ (8 : Int) < l.length := by omega
  have HLN := Lib.hid (show inR l.length 1 8 = true by simp [inR]; omega)
  clear h1 h8
  gi_wp2
  clear h1' h8'
  gi_loopw [16] (fun i wr => ∃ k : Nat, k ≤ l.length ∧ i = .int .i64 k ∧ Kn w [(w.heap.size, 25, #[.slice (some ⟨b, o, none⟩) l.length c]), (w.heap.size + 1, 4, #[.bool false])] wr ∧ ∀ i (h : i < l.length), i < k → (okT l[i] && targB l l[i]) = true) (fun i _ => l.length - (intOf i).toNat)
  case atStart => exact ⟨0, by omega, rfl, HK.out.less (by simp), fun i h hi => absurd hi (by omega)⟩
  case round =>
    obtain ⟨k, hk, rfl, K1, hok⟩ := hrel
    have HK1 := Lib.hid K1
    have HOK := Lib.hid hok
    clear K1 hok
    by_cases hlt : k < l.length
    · have hlt' : (k : Int) < (l.length : Int) := by omega
      obtain ⟨ss, qs, hR, hQ, hA⟩ := (HT.out.stay HK1.out.1) k hlt
      have hlt2 := cell_lt (hA 0 _ rfl)
      generalize hx : l[k] = x at *
      have HX := Lib.hid hx
      have d0 : wr.cell? ⟨b, o + k * 8, none⟩ = some (.int .i64 x.kind) := hA 0 _ rfl
      have d1 := hA 1 _ rfl
      have d2 := hA 2 _ rfl
      have d3 := hA 3 _ rfl
      have d4 := hA 4 _ rfl
      have d5 := hA 5 _ rfl
      have d6 := hA 6 _ rfl
      have d7 := hA 7 _ rfl
      have hB1 : Below wr.heap.size wr (wr.alloc (.cells (x.cs ss qs) 37)) := (Below.refl _ _).alloc (Nat.le_refl _) _
      have HR := Lib.hid (hR.stay hB1)
      have HQ := Lib.hid (hQ.stay hB1)
      have HK2 := Lib.hid (HK1.out.new 37 (x.cs ss qs))
      have cS := HK1.out.c (b := w.heap.size) (T := 25) (vs := #[.slice (some ⟨b, o, none⟩) l.length c]) (by simp) 0 _ rfl
      clear hA hB1 hR hQ hx
      cases g1 : okT x
      · have G1 := Lib.hid g1
        clear g1
        gi_wp2_with fail
        refine ⟨trivial, ?_⟩
        refine (callsIn_wide.2 (implTOk_val G1.out _ HR.out HQ.out (HF.out.stay HK2.out.1))).mono ?_
        rintro e y ⟨rfl, hb⟩
        have HK3 := Lib.hid (HK2.out.stay hb)
        clear hb d0 d1 d2 d3 d4 d5 d6 d7 cS
        have cR := HK3.out.c (b := w.heap.size + 1) (T := 4) (vs := #[.bool false]) (by simp) 0 _ rfl
        have fR := HK3.out.f (b := w.heap.size + 1) (T := 4) (vs := #[.bool false]) (by simp) 0
        gi_wp2
        refine ⟨trivial, ?_⟩
        gi_wp2
        have hA : tabI l = false := by simp [tabI, all_bad hlt (f := fun x => okT x && targB l x) (by rw [HX.out]; simp [G1.out])]
        refine ⟨.bool false, ?_, by rw [hA], HK3.out.1.setCell (p := ⟨w.heap.size + 1, 0, none⟩) (by simp) _⟩
        simp [results, Tryd.results23, go_sem, cR]
      have G1 := Lib.hid g1
      clear g1
      gi_wp2_with fail
      refine ⟨trivial, ?_⟩
      refine (callsIn_wide.2 (implTOk_val G1.out _ HR.out HQ.out (HF.out.stay HK2.out.1))).mono ?_
      rintro e y ⟨rfl, hb⟩
      have HK3 := Lib.hid (HK2.out.stay hb)
      clear hb d0 d1 d2 d3 d4 d5 d6 d7 cS
      have cS := HK3.out.c (b := w.heap.size) (T := 25) (vs := #[.slice (some ⟨b, o, none⟩) l.length c]) (by simp) 0 _ rfl
      have c0 := HK3.out.c (b := wr.heap.size) (T := 37) (vs := x.cs ss qs) (by simp) 0 _ rfl
      have c1 := HK3.out.c (b := wr.heap.size) (T := 37) (vs := x.cs ss qs) (by simp) 1 _ rfl
      have c2 := HK3.out.c (b := wr.heap.size) (T := 37) (vs := x.cs ss qs) (by simp) 2 _ rfl
      have c3 := HK3.out.c (b := wr.heap.size) (T := 37) (vs := x.cs ss qs) (by simp) 3 _ rfl
      have c4 := HK3.out.c (b := wr.heap.size) (T := 37) (vs := x.cs ss qs) (by simp) 4 _ rfl
      have c5 := HK3.out.c (b := wr.heap.size) (T := 37) (vs := x.cs ss qs) (by simp) 5 _ rfl
      have c6 := HK3.out.c (b := wr.heap.size) (T := 37) (vs := x.cs ss qs) (by simp) 6 _ rfl
      have c7 := HK3.out.c (b := wr.heap.size) (T := 37) (vs := x.cs ss qs) (by simp) 7 _ rfl
      cases g2 : targB l x
      · have G2 := Lib.hid g2
        clear g2
        gi_wp2_with fail
        refine ⟨trivial, ?_⟩
        refine (callsIn_wide.2 (targetOk_val G2.out _ (HT.out.stay HK3.out.1) hz)).mono ?_
        rintro e y2 ⟨rfl, hb⟩
        have HK4 := Lib.hid (HK3.out.stay hb)
        clear hb c0 c1 c2 c3 c4 c5 c6 c7 cS
        have cR := HK4.out.c (b := w.heap.size + 1) (T := 4) (vs := #[.bool false]) (by simp) 0 _ rfl
        have fR := HK4.out.f (b := w.heap.size + 1) (T := 4) (vs := #[.bool false]) (by simp) 0
        gi_wp2
        have hA : tabI l = false := by simp [tabI, all_bad hlt (f := fun x => okT x && targB l x) (by rw [HX.out]; simp [G2.out])]
        refine ⟨.bool false, ?_, by rw [hA], HK4.out.1.setCell (p := ⟨w.heap.size + 1, 0, none⟩) (by simp) _⟩
        simp [results, Tryd.results23, go_sem, cR]
      have G2 := Lib.hid g2
      clear g2
      gi_wp2_with fail
      refine ⟨trivial, ?_⟩
      refine (callsIn_wide.2 (targetOk_val G2.out _ (HT.out.stay HK3.out.1) hz)).mono ?_
      rintro e y2 ⟨rfl, hb⟩
      have HK4 := Lib.hid (HK3.out.stay hb)
      clear hb c0 c1 c2 c3 c4 c5 c6 c7 cS
      gi_wp2
      go_roundw
      case rel =>
        refine ⟨k + 1, by omega, by simp, HK4.out.less (by simp), fun i h hi => ?_⟩
        by_cases hik : i = k
        · subst hik; rw [HX.out]; simp [G1.out, G2.out]
        · exact HOK.out i h (by omega)
      case measure => simp [intOf]; omega
    · have hlt' : ¬ (k : Int) < (l.length : Int) := by omega
      have HE := Lib.hid (show k = l.length by omega)
      have cS := HK1.out.c (b := w.heap.size) (T := 25) (vs := #[.slice (some ⟨b, o, none⟩) l.length c]) (by simp) 0 _ rfl
      gi_wp2_with fail
      refine ⟨trivial, ?_⟩
      refine (callsIn_wide.2 (rightsOf_any _ _ _ _)).mono ?_
      rintro e w' ⟨rfl, rfl⟩
      clear cS hlt'
      gi_wp2_with fail
      have HALL := Lib.hid (show l.all (fun x => okT x && targB l x) = true from all_upto (fun i h _ => HOK.out i h (by have := HE.out; omega)))
      obtain ⟨W0, hW0⟩ : ∃ W0, wr.alloc (.cells #[.slice (some ⟨b, o, none⟩) l.length c] 25) = W0 := ⟨_, rfl⟩
      have hsz : W0.heap.size = wr.heap.size + 1 := by rw [← hW0]; simp
      have K2 := HK1.out.new 25 #[.slice (some ⟨b, o, none⟩) l.length c]
      rw [hW0] at K2
      have hws := HK1.out.1.size
      have HT0 := Lib.hid (HT.out.stay K2.1)
      have HSQ := Lib.hid (iter_stops 8 (by omega) wr.heap.size b o c l hz W0 (by omega) (K2.c (b := wr.heap.size) (T := 25) (vs := #[.slice (some ⟨b, o, none⟩) l.length c]) (by simp) 0 _ rfl) HT0.out)
      have HR := Lib.hid (K2.box (b := w.heap.size + 1) (T := 4) (vs := #[.bool false]) (by simp))
      have HS := Lib.hid (K2.box (b := w.heap.size) (T := 25) (vs := #[.slice (some ⟨b, o, none⟩) l.length c]) (by simp))
      have HB0 := Lib.hid K2.1
      clear K2 HOK HE hlt
      have hlr := HR.out.lt
      rw [hW0]
      refine wpIn_rangeFunc_ownH rfl (by omega) (gf := 100) (lb := #[.pointer (some ⟨wr.heap.size, 0, none⟩)]) rfl trivial (enters_of Tryd.func100 (by kernel_rfl) rfl)
        HSQ.out belowK_t (belowK_b (Nat.le_refl _)) (Below.refl _ _) (fun _ => rfl)
        (fun pre W => (((∀ r ∈ pre, beenB l r = true) ∧ Box W (w.heap.size + 1) 4 #[.bool false]) ∧ Box W w.heap.size 25 #[.slice (some ⟨b, o, none⟩) l.length c]) ∧ Below w.heap.size W0 W)
        (fun c pre W => ((c = .ret ∧ ∃ r ∈ pre, beenB l r = false) ∧ Box W (w.heap.size + 1) 4 #[.bool false]) ∧ Below w.heap.size W0 W)
        (OwnFrom.and (OwnFrom.and (OwnFrom.and (ownFrom_pure _ _) (Own.from (box_own _ _ _) _)) (Own.from (box_own _ _ _) _)) (ownFrom_below (by omega) (by omega)))
        (fun c => OwnFrom.and (OwnFrom.and (ownFrom_pure _ _) (Own.from (box_own _ _ _) _)) (ownFrom_below (by omega) (by omega)))
        ⟨⟨⟨by simp, HR.out⟩, HS.out⟩, Below.refl _ _⟩
        (fun r a' W => ∃ Bx, w.heap.size + 1 < Bx ∧ Box W Bx 44 r.cs ∧ a' = { tmps := #[.slice (some ⟨b, o, none⟩) l.length c, .pointer (some ⟨w.heap.size, 0, none⟩), .pointer (some ⟨w.heap.size + 1, 0, none⟩), undef, u4, .pointer (some ⟨Bx, 0, none⟩), .slice (some ⟨b, o, none⟩) l.length c, .int .i64 l.length, .bool false, .bool false, .slice (some ⟨b, o, none⟩) l.length c, .int .i64 l.length, .bool false, .bool false, .slice (some ⟨b, o, none⟩) l.length c, .int .i64 l.length, .int .i64 k, .bool false, u18, u19, u20, u21, u22, u23, u24, u25, u26, u27, u28, u29, .slice (some ⟨b, o, none⟩) l.length c, .func (.func 100) #[] #[.pointer (some ⟨wr.heap.size, 0, none⟩)], rgt r.t r.v r.r r.w r.k, undef, undef, undef, undef], defers := [] })
        (fun r a' _ X Y row hs hg hr => by obtain ⟨Bx, e1, e2, e3⟩ := hs; exact ⟨Bx, e1, box_own Bx 44 r.cs () X Y row e2 hg (fun r e => (hr r e).2), e3⟩)
        ?assign ?body ?done ?stop
      case assign =>
        rintro l1 pre r W K ⟨⟨⟨hp, bR1⟩, bS1⟩, hB1⟩ hK
        have HI := Lib.hid (And.intro (And.intro (And.intro hp bR1) bS1) hB1)
        clear hp bR1 bS1 hB1
        gi_wp2
        exact hK _ _ (keeps_of ((Below.refl _ _).alloc (Nat.le_refl _) _)) (((Below.refl _ W).alloc (Nat.le_refl _) _).mono HI.out.2.size) ⟨⟨⟨HI.out.1.1.1, HI.out.1.1.2.past _⟩, HI.out.1.2.past _⟩, HI.out.2.alloc (by have := HI.out.2.size; omega) _⟩ ⟨W.heap.size, HI.out.1.1.2.lt, Box.fresh W 44 _, rfl⟩
      case body =>
        rintro l1 pre r a' W hl ⟨rr, hr⟩ ⟨⟨⟨hp, bR1⟩, bS1⟩, hB1⟩ ⟨Bx, hBx, bX, rfl⟩ hlt
        have c0 := bX.cell 0 _ rfl
        have c1 := bX.cell 1 _ rfl
        have c2 := bX.cell 2 _ rfl
        have c3 := bX.cell 3 _ rfl
        have c4 := bX.cell 4 _ rfl
        have cS := bS1.cell 0 _ rfl
        have HTW := Lib.hid (HT.out.stay (HB0.out.trans hB1))
        have HI := Lib.hid (And.intro (And.intro (And.intro hp bR1) bS1) hB1)
        clear hp bR1 bS1 hB1 bX hlt hr
        cases ho : beenB l r
        · have HO := Lib.hid ho
          clear ho
          gi_wp2_with fail
          refine ⟨trivial, ?_⟩
          refine (CallsIn.inRound l1 (callsIn_wide.2 (hasBeen_val HO.out _ HTW.out hz))).mono ?_
          rintro e y ⟨rfl, hb⟩
          have bR2 := HI.out.1.1.2.stay hb
          have cR := bR2.cell 0 _ rfl
          have fR := bR2.thaw 0
          have HB := Lib.hid hb
          have HR2 := Lib.hid bR2
          clear hb bR2 c0 c1 c2 c3 c4 cS
          gi_wp2
          exact ⟨(keeps_of HB.out).trans ((KeepsOthers.setCell _ _ _).from _), ⟨⟨rfl, r, by simp, HO.out⟩, by have := HR2.out.put 0 (.bool false); simpa using this⟩, (goB2 HI.out.2 (by have := HI.out.2.size; omega) HB.out).setCell (p := ⟨w.heap.size + 1, 0, none⟩) (by simp) _⟩
        · have HO := Lib.hid ho
          clear ho
          gi_wp2_with fail
          refine ⟨trivial, ?_⟩
          refine (CallsIn.inRound l1 (callsIn_wide.2 (hasBeen_val HO.out _ HTW.out hz))).mono ?_
          rintro e y ⟨rfl, hb⟩
          have HB := Lib.hid hb
          clear hb c0 c1 c2 c3 c4 cS
          gi_wp2
          exact ⟨keeps_of HB.out, HB.out.mono HI.out.2.size, ⟨⟨fun z hz => (List.mem_append.1 hz).elim (HI.out.1.1.1 z) (fun e => by simp at e; subst e; exact HO.out), HI.out.1.1.2.stay HB.out⟩, HI.out.1.2.stay HB.out⟩, goB2 HI.out.2 (by have := HI.out.2.size; omega) HB.out⟩
      case done =>
        rintro D zs W hD rfl ⟨⟨⟨hp, bR1⟩, bS1⟩, hB1⟩ hK
        have cR := bR1.cell 0 _ rfl
        have fR := bR1.thaw 0
        have HR1 := Lib.hid bR1
        have HP := Lib.hid (show tabI l = true by simp [tabI, HLN.out, HALL.out, List.all_eq_true.2 hp])
        clear bR1 bS1 hp
        gi_wp2
        have hK' := (KeepsOthers.setCell W ⟨w.heap.size + 1, 0, none⟩ (.bool true)).same D _ hK rfl
        refine ⟨by simp, .inl ⟨_, _, rfl, run_takeDeferred hK', ?_⟩⟩
        have hc5 := cell_kept (World.cell?_setCell_same' W ⟨w.heap.size + 1, 0, none⟩ (.bool true) (by rw [cR]; rfl)) (grownBy_putObj' _ D (.deferred none)) (fun r e => by cases e; exact ⟨_, hK', rfl⟩)
        refine ⟨.bool true, ?_, by rw [HP.out], HB0.out.trans <| (hB1.setCell (p := ⟨w.heap.size + 1, 0, none⟩) (by simp) _).trans (belowK_b (w := w) (Nat.le_refl _) _ D _ _ (by omega) hK' rfl rfl)⟩
        simp [results, Tryd.results23, go_sem, hc5]
      case stop =>
        rintro D c1 pre W hD hpre ⟨⟨⟨rfl, r, hr, hbad⟩, bR1⟩, hB1⟩ hK
        have HP := Lib.hid (show tabI l = false by simp only [tabI, List.all_eq_false.2 ⟨r, hpre.subset hr, show ¬ beenB l r = true by simp [hbad]⟩, Bool.and_false])
        gi_wp2
        refine ⟨by simp, .inl ⟨_, _, rfl, run_takeDeferred hK, ?_⟩⟩
        have hc5 := cell_kept (bR1.cell 0 _ rfl) (grownBy_putObj' _ D (.deferred none)) (fun r e => by cases e; exact ⟨_, hK, rfl⟩)
        refine ⟨.bool false, ?_, by rw [HP.out], HB0.out.trans <| hB1.trans (belowK_b (w := w) (Nat.le_refl _) W D _ _ (by omega) hK rfl rfl)⟩
        simp [results, Tryd.results23, go_sem, hc5]
end Go.Proofs.YtpahahonopiblaaDoor
