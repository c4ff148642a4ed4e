/-
  What the laws on checks share.
-/
import Derived.Test.YtohfincnjhemfaaDoorDrawCC
import Derived.Test.YtohfincnjhemfaaDoorChG
namespace Go.Proofs.YtohfincnjhemfaaDoor
open Go.RowKit
set_option maxRecDepth 100000
set_option linter.unusedVariables false

theorem useV_lt {l : List T8} {p : T8} {r : R5} {k : Int} (h : useV l p r k ≠ -1) (h0 : 0 ≤ r.t) (hl : r.t ≤ l.length) : inR r.t 1 l.length = true := by
  cases h1 : inR r.t 1 l.length with
  | true => rfl
  | false => exact absurd (useV_none h1 h0 hl) h
/-- What stands where a call is not refused outright. -/
theorem chk_facts {l : List T8} {q : C5} {v : Int} (h : chkV l q = v) (hv : v ≠ -1) (h3 : q.k ≠ 3) :
    (tabOk l && isRun l q.r) = true ∧ q.ok = true ∧ inR (slotAt (thAt l q.r) q.a).t 1 l.length = true ∧ kindOk q.k (thAt l (slotAt (thAt l q.r) q.a).t).kind = true ∧
    ((!needR q.k || (slotAt (thAt l q.r) q.a).r) && (!needW q.k || (slotAt (thAt l q.r) q.a).w)) = true ∧
    v = if ((!needR q.k || seesT (thAt l q.r) (thAt l (slotAt (thAt l q.r) q.a).t)) && (!needW q.k || touT (thAt l q.r) (thAt l (slotAt (thAt l q.r) q.a).t))) = false then -2 else if (seesT (thAt l q.r) (thAt l (slotAt (thAt l q.r) q.a).t) && !liveB l (slotAt (thAt l q.r) q.a)) then -3 else 0 := by
  subst h
  cases h1 : (tabOk l && isRun l q.r) with
  | false => exact absurd (chkV_no h1) hv
  | true =>
    cases h2 : q.ok with
    | false => exact absurd (chkV_bad h2) hv
    | true =>
      have hg := chkV_go h1 h2
      rw [if_neg h3] at hg
      rw [hg] at hv
      obtain ⟨rl, rs⟩ := run_slots h1
      obtain ⟨-, -, -, a0, a3⟩ := ok_k h2
      obtain ⟨ja, hja⟩ : ∃ ja : Nat, q.a = ja := ⟨q.a.toNat, by omega⟩
      have hjs : ja < (thAt l q.r).slots.length := by omega
      have e := slotAt_of hjs hja
      obtain ⟨r1, r2⟩ := rs ja hjs
      rw [← e] at r1 r2
      have hi := useV_lt hv (R5.bd r1).1 r2
      cases hk : kindOk q.k (thAt l (slotAt (thAt l q.r) q.a).t).kind with
      | false => exact absurd (useV_kind hk) hv
      | true =>
        cases hr : ((!needR q.k || (slotAt (thAt l q.r) q.a).r) && (!needW q.k || (slotAt (thAt l q.r) q.a).w)) with
        | false => exact absurd (useV_right hr) hv
        | true => exact ⟨rfl, rfl, hi, rfl, rfl, by rw [hg]; exact useV_go hi hk hr⟩
/-- Where the right that a call uses lies. -/
theorem slot_at {y : World} {g n c : Nat} {l : List T8} {q : C5} (ht : HasT y ⟨some ⟨g, 0, none⟩, n, c⟩ l) (h1 : (tabOk l && isRun l q.r) = true) (h2 : q.ok = true) :
    ∃ (jr ja : Nat) (hjr : jr < l.length) (rb ro sc : Nat) (qs : Sl), q.r = (jr : Int) + 1 ∧ q.a = ja ∧ ja < 4 ∧ thAt l q.r = l[jr] ∧ At y g (jr * 8) (l[jr].cs ⟨some ⟨rb, ro, none⟩, 4, sc⟩ qs) ∧ At y rb (ro + ja * 5) (slotAt (thAt l q.r) q.a).cs ∧ (slotAt (thAt l q.r) q.a).ok = true := by
  obtain ⟨k9, -, -, a0, a3⟩ := ok_k h2
  obtain ⟨rl, rs⟩ := run_slots h1
  have hR : isRun l q.r = true := by simp only [Bool.and_eq_true] at h1; exact h1.2
  have hI : inR q.r 1 l.length = true := by simp only [isRun, Bool.and_eq_true] at hR; exact hR.1
  obtain ⟨jr, hjr, hn⟩ := idx_of hI
  have hth := thAt_of hjr hn
  rw [hth] at rl rs
  obtain ⟨b, o, ea, hTb⟩ := ht.ne hjr
  simp only [Option.some.injEq, Addr.mk.injEq] at ea
  obtain ⟨rfl, rfl, -⟩ := ea
  obtain ⟨ss, qs, hSS, -, hA⟩ := hTb jr hjr
  obtain ⟨ja, hja⟩ : ∃ ja : Nat, q.a = ja := ⟨q.a.toNat, by omega⟩
  have hjs : ja < l[jr].slots.length := by omega
  obtain ⟨rb, ro, hsa, hB⟩ := hSS.at hjs
  obtain ⟨r1, r2⟩ := rs ja hjs
  have hsn := hSS.len
  rw [rl] at hsn
  obtain ⟨sa, sn, sc⟩ := ss
  dsimp only at hsa hsn
  subst hsa hsn
  refine ⟨jr, ja, hjr, rb, ro, sc, qs, by omega, hja, by omega, hth, by simpa using hA, ?_, ?_⟩
  · rw [hth, slotAt_of hjs hja]; exact hB
  · rw [hth, slotAt_of hjs hja]; exact r1
theorem chkSees_run {l : List T8} {r n : Int} (h : (tabOk l && isRun l r) = true) (hn : inR n 1 l.length = true) : chkSees l r n = seesT (thAt l r) (thAt l n) := by
  simp only [Bool.and_eq_true] at h
  simp [chkSees, h.1, h.2, hn]
theorem chkTou_run {l : List T8} {r n : Int} (h : (tabOk l && isRun l r) = true) (hn : inR n 1 l.length = true) : chkTou l r n = touT (thAt l r) (thAt l n) := by
  simp only [Bool.and_eq_true] at h
  simp [chkTou, h.1, h.2, hn]
theorem kind_of {k d : Int} (h : kindOk k d = true) : d ∈ kindsOf k := by simpa [kindOk, inL] using h
end Go.Proofs.YtohfincnjhemfaaDoor
