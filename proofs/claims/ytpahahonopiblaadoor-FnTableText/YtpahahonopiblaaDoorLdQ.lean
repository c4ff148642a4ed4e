/-
  The laws' sameness of tables, decided.
-/
import Derived.Test.YtpahahonopiblaaDoorLd
import Derived.Deep.QuietTactic
import Derived.BigQuiet
namespace Go.Proofs.YtpahahonopiblaaDoor
open Go.RowKit
set_option maxRecDepth 100000
set_option linter.unusedVariables false

/-- The same, as a truth value. -/
noncomputable def dq {α : Type} (x y : α) : Bool := @decide (x = y) (Classical.propDecidable _)
theorem dq_iff {α : Type} {x y : α} : dq x y = true ↔ x = y := by unfold dq; exact @decide_eq_true_iff _ (Classical.propDecidable _)
theorem dq_no {α : Type} {x y : α} (h : x ≠ y) : dq x y = false := by
  cases hd : dq x y
  · rfl
  · exact absurd (dq_iff.1 hd) h
theorem dq_yes {α : Type} {x y : α} (h : x = y) : dq x y = true := dq_iff.2 h
theorem ldThing_dec (x y : T8) (s q t p : Sl) (w : World) (hs : HasR w s x.slots) (hq : HasQ w q x.queue) (ht : HasR w t y.slots) (hp : HasQ w p y.queue) (hz : x.slots.length ≤ 1048576) (hzq : x.queue.length ≤ 1048576) :
    Calls Tryd.prog 55 #[x.val s q, y.val t p] w fun e w' => e = .returned (.bool (dq x y)) ∧ Below w.heap.size w w' :=
  (ldThing_any x y s q t p w hs hq ht hp hz hzq).mono fun e w' ⟨v, h1, h2, h3⟩ => by
    refine ⟨?_, h3⟩
    rw [h1]
    cases v with
    | true => rw [dq_yes (h2.1 rfl)]
    | false => rw [dq_no (fun e => by have := h2.2 e; cases this)]
theorem take_same {α : Type} {l m : List α} {k : Nat} (hl : k < l.length) (hm : k < m.length) (h : l.take k = m.take k) (he : l[k] = m[k]) : l.take (k + 1) = m.take (k + 1) := by
  rw [List.take_succ_eq_append_getElem hl, List.take_succ_eq_append_getElem hm, h, he]
theorem cells8 {w : World} {g o : Nat} {x : T8} {s q : Sl} (h : At w g o (x.cs s q)) : w.cell? ⟨g, o, none⟩ = some (.int .i64 x.kind) ∧ w.cell? ⟨g, o + 1, none⟩ = some (.int .i64 x.sec) ∧ w.cell? ⟨g, o + 2, none⟩ = some (.int .i64 x.vou) ∧ w.cell? ⟨g, o + 3, none⟩ = some (.int .i64 x.vers) ∧ w.cell? ⟨g, o + 4, none⟩ = some (.int .i64 x.num) ∧ w.cell? ⟨g, o + 5, none⟩ = some (.slice s.a s.n s.c) ∧ w.cell? ⟨g, o + 6, none⟩ = some (.slice q.a q.n q.c) ∧ w.cell? ⟨g, o + 7, none⟩ = some (.int .i64 x.to) :=
  ⟨h 0 _ rfl, h 1 _ rfl, h 2 _ rfl, h 3 _ rfl, h 4 _ rfl, h 5 _ rfl, h 6 _ rfl, h 7 _ rfl⟩

set_option maxHeartbeats 4000000 in
theorem ldTable_any (l m : List T8) (b o c b2 o2 c2 : Nat) (w : World) (h1 : Tb w b o l) (h2 : Tb w b2 o2 m) (hz : l.length ≤ 1048576) (hz2 : m.length ≤ 1048576) (hzs : ∀ i (h : i < l.length), l[i].slots.length ≤ 1048576 ∧ l[i].queue.length ≤ 1048576) :
    Calls Tryd.prog 20 #[.slice (some ⟨b, o, none⟩) l.length c, .slice (some ⟨b2, o2, none⟩) m.length c2] w fun e w' => e = .returned (.bool (dq l m)) ∧ Below w.heap.size w w' := by
  have H1 := Lib.hid h1
  have H2 := Lib.hid h2
  have HZ := Lib.hid hzs
  clear h1 h2 hzs
  by_cases hlen : l.length = m.length
  · have hn : ((l.length : Int) != (m.length : Int)) = false := by simp [hlen]
    have HL := Lib.hid hlen
    clear hlen
    go_enter Tryd.func20, Tryd.ntmps20
    go_wp2
    go_loopw [5] (fun i wr => ∃ k : Nat, k ≤ l.length ∧ i = .int .i64 k ∧ l.take k = m.take k ∧ Below w.heap.size w wr) (fun i _ => l.length - (intOf i).toNat)
    case atStart => exact ⟨0, by omega, rfl, by simp, Below.refl _ _⟩
    case round =>
      obtain ⟨k, hk, rfl, htk, B0⟩ := hrel
      have HB := Lib.hid B0
      have HTK := Lib.hid htk
      clear B0 htk
      by_cases hlt : k < l.length
      · have hlt' : (k : Int) < (l.length : Int) := by omega
        have hlm : k < m.length := HL.out ▸ hlt
        have hlm' : (k : Int) < (m.length : Int) := by omega
        obtain ⟨ss, qs, hR, hQ, hA⟩ := (H1.out.stay HB.out) k hlt
        obtain ⟨ss2, qs2, hR2, hQ2, hA2⟩ := (H2.out.stay HB.out) k hlm
        have HTS := Lib.hid (fun he => take_same hlt hlm HTK.out he)
        have HNE := Lib.hid (fun (he : l[k] ≠ m[k]) => (dq_no (fun e : l = m => he (by subst e; rfl)) : dq l m = false))
        have HZK := Lib.hid (HZ.out k hlt)
        obtain ⟨x, hx⟩ : ∃ x, l[k] = x := ⟨_, rfl⟩
        obtain ⟨y, hy⟩ : ∃ y, m[k] = y := ⟨_, rfl⟩
        rw [hx] at hR hQ hA HTS HNE HZK
        rw [hy] at hR2 hQ2 hA2 HTS HNE
        obtain ⟨c0, c1, c2, c3, c4, c5, c6, c7⟩ := cells8 hA
        obtain ⟨d0, d1, d2, d3, d4, d5, d6, d7⟩ := cells8 hA2
        have cc0 := fun zz : Wd (Kn wr []) => stayCell c0 zz.ok.1
        have cc1 := fun zz : Wd (Kn wr []) => stayCell c1 zz.ok.1
        have cc2 := fun zz : Wd (Kn wr []) => stayCell c2 zz.ok.1
        have cc3 := fun zz : Wd (Kn wr []) => stayCell c3 zz.ok.1
        have cc4 := fun zz : Wd (Kn wr []) => stayCell c4 zz.ok.1
        have cc5 := fun zz : Wd (Kn wr []) => stayCell c5 zz.ok.1
        have cc6 := fun zz : Wd (Kn wr []) => stayCell c6 zz.ok.1
        have cc7 := fun zz : Wd (Kn wr []) => stayCell c7 zz.ok.1
        have dd0 := fun zz : Wd (Kn wr []) => stayCell d0 zz.ok.1
        have dd1 := fun zz : Wd (Kn wr []) => stayCell d1 zz.ok.1
        have dd2 := fun zz : Wd (Kn wr []) => stayCell d2 zz.ok.1
        have dd3 := fun zz : Wd (Kn wr []) => stayCell d3 zz.ok.1
        have dd4 := fun zz : Wd (Kn wr []) => stayCell d4 zz.ok.1
        have dd5 := fun zz : Wd (Kn wr []) => stayCell d5 zz.ok.1
        have dd6 := fun zz : Wd (Kn wr []) => stayCell d6 zz.ok.1
        have dd7 := fun zz : Wd (Kn wr []) => stayCell d7 zz.ok.1
        have ne : Nonempty (Wd (Kn wr [])) := ⟨⟨_, Kn.refl⟩⟩
        obtain ⟨v, hv⟩ : ∃ v, dq x y = v := ⟨_, rfl⟩
        have G := Lib.hid (show ∀ zz : Wd (Kn wr []), Calls Tryd.prog 55 #[x.val ss qs, y.val ss2 qs2] zz.w fun e w' => e = .returned (.bool v) ∧ Below zz.w.heap.size zz.w w' from fun zz => hv ▸ ldThing_dec x y ss qs ss2 qs2 zz.w (hR.stay zz.ok.1) (hQ.stay zz.ok.1) (hR2.stay zz.ok.1) (hQ2.stay zz.ok.1) HZK.out.1 HZK.out.2)
        have HVV := Lib.hid hv
        have wj : IntKind.i64.wrap (k : Int) = (k : Int) := IntWalk.i64_in _ (by omega)
        clear c0 c1 c2 c3 c4 c5 c6 c7 d0 d1 d2 d3 d4 d5 d6 d7 hR hQ hA hR2 hQ2 hA2 hx hy hv
        go_upto_region 6 with fail
        refine wp_region_quiet (C := fun y => ∃ t : Wd (Kn wr []), y = t.w) (by kernel_rfl) (by kernel_rfl) ⟨⟨_, Kn.refl.drew⟩, rfl⟩ ?_
        show wpQuiet _ _ _ _ [_, _, _, _, _, _, _, _, _, _] _
        repeat (first | go_big_quiet_step ((go_at_call 55; with_reducible exact inCls Kn.stay (G.out _))) | quiet_step ((go_at_call 55; with_reducible exact inCls Kn.stay (G.out _))))
        refine wpQuiet_nil ?_
        rintro y9 ⟨⟨_, K9⟩, rfl⟩
        have HK9 := Lib.hid (HB.out.trans (K9.1.mono HB.out.size))
        clear ne cc0 cc1 cc2 cc3 cc4 cc5 cc6 cc7 dd0 dd1 dd2 dd3 dd4 dd5 dd6 dd7 K9
        cases v
        · have HD := Lib.hid (HNE.out (fun e => by have := dq_yes e; rw [HVV.out] at this; cases this))
          go_wp2
          go_ret
          exact ⟨by rw [HD.out]; rfl, HK9.out⟩
        · have HD := Lib.hid (HTS.out (dq_iff.1 HVV.out))
          go_wp2
          go_roundw
          case rel => exact ⟨k + 1, by omega, by go_num, HD.out, HK9.out⟩
          case measure => simp [intOf]; omega
      · have hlt' : ¬ (k : Int) < (l.length : Int) := by omega
        have HD := Lib.hid (show dq l m = true by
          refine dq_yes ?_
          have h := HTK.out
          rwa [List.take_of_length_le (by omega), List.take_of_length_le (by have := HL.out; omega)] at h)
        go_wp2
        go_ret
        exact ⟨by rw [HD.out]; rfl, HB.out⟩
  · have hn : ((l.length : Int) != (m.length : Int)) = true := by simp; omega
    have HD := Lib.hid (dq_no (fun e : l = m => hlen (by rw [e])))
    clear hlen
    go_enter Tryd.func20, Tryd.ntmps20
    go_wp2
    go_ret
    exact ⟨by rw [HD.out]; rfl, Below.refl _ _⟩
end Go.Proofs.YtpahahonopiblaaDoor
