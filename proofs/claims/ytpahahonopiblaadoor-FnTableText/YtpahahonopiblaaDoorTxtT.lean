/-
  The text of a table: the model's.
-/
import Derived.Test.YtpahahonopiblaaDoorTxtS
import Derived.Test.YtpahahonopiblaaDoorTabOk
import Derived.Deep.QuietTactic
import Derived.BigQuiet
namespace Go.Proofs.YtpahahonopiblaaDoor
open Go.RowKit
set_option linter.unusedVariables false
set_option maxRecDepth 100000

theorem thing_len {x : T8} (h : okT x = true) : (thingL x).length ≤ 62 := by
  have h1 := head_len x
  have h2 := slotsL_len x.slots
  have h3 := queueL_len x.queue
  have h4 := okT_slots h
  have h5 := (x_okT_queue h).1
  have h6 := decL_len x.to
  rw [thingL_head]
  simp only [List.length_append, List.length_cons, List.length_nil]
  split <;> simp only [List.length_cons, List.length_nil] <;> omega
theorem tab_size {l : List T8} (h : ∀ x ∈ l, okT x = true) (i : Nat) : (tabL i l).length ≤ 65 * l.length := by
  induction l generalizing i with
  | nil => simp [tabL]
  | cons x l ih =>
    have h1 := thing_len (h x (by simp))
    have h2 := ih (fun y hy => h y (by simp [hy])) (i + 1)
    have h3 := decL_len ((i : Int) + 1)
    simp only [tabL, List.length_append, List.length_cons]
    omega
theorem tab_more1 (l : List T8) (k : Nat) (h : k < l.length) : tabL 0 (l.take (k + 1)) = tabL 0 (l.take k) ++ (decL ((k : Int) + 1) ++ 32 :: thingL l[k]) := by
  rw [List.take_succ_eq_append_getElem h, tab_app]
  have : 0 + (l.take k).length = k := by rw [List.length_take]; omega
  rw [this]
  simp only [tabL, List.append_nil]
theorem tab_all {l : List T8} (h : tabOk l = true) : ∀ x ∈ l, okT x = true := fun x hx => by
  simp only [tabOk, Bool.and_eq_true] at h
  have := List.all_eq_true.1 h.1 x hx
  simp only [elemOk, Bool.and_eq_true] at this
  exact this.1
theorem HasT.ne2 {w : World} {s : Sl} {l : List T8} (h : HasT w s l) {j : Nat} (hj : j < l.length) : ∃ b o, s.a = some ⟨b, o, none⟩ ∧ Tb w b o l := by
  rcases h.2.2 with h0 | h0
  · subst h0; simp at hj
  · exact h0
theorem dec1 {k : Nat} (h : k < 90) : -9 ≤ (k : Int) + 1 ∧ (k : Int) + 1 ≤ 99 := by omega

set_option maxHeartbeats 8000000 in
theorem l3Text_any (l : List T8) (s : Sl) (w : World) (hT : HasT w s l) (hok : ∀ x ∈ l, okT x = true) (hz : l.length ≤ 80) :
    Calls Tryd.prog 46 #[.slice s.a s.n s.c] w fun e w' => e = .returned (.string (B (tabL 0 l))) ∧ Below w.heap.size w w' := by
  have HT := Lib.hid hT
  have HOK := Lib.hid hok
  have sn := hT.1
  clear hT hok
  go_enter Tryd.func46, Tryd.ntmps46
  go_wp2
  go_loopw [3, 4] (fun v i wr => ∃ k : Nat, k ≤ l.length ∧ i = .int .i64 k ∧ v = .string (B (tabL 0 (l.take k))) ∧ Kn w [] wr) (fun _ i _ => l.length - (intOf i).toNat)
  case atStart => exact ⟨0, by omega, rfl, by simp [tabL]; rfl, Kn.refl⟩
  case round =>
    obtain ⟨k, hk, rfl, rfl, K2⟩ := hrel
    have HK2 := Lib.hid K2
    clear K2
    by_cases hlt : k < l.length
    · have hlt' : (k : Int) < (l.length : Int) := by omega
      obtain ⟨b, o, ea, hTb⟩ := (HT.out.stay HK2.out.1).ne2 hlt
      obtain ⟨ss, qs, hR, hQ, hA⟩ := hTb k hlt
      have OX := Lib.hid (HOK.out l[k] (List.getElem_mem hlt))
      have HTK := Lib.hid (tab_more1 l k hlt)
      have zk := tab_size (l := l.take k) (fun x hx => HOK.out x (List.mem_of_mem_take hx)) 0
      have zk2 : (l.take k).length = k := by rw [List.length_take]; omega
      obtain ⟨x, hx⟩ : ∃ x, l[k] = x := ⟨_, rfl⟩
      rw [hx] at hR hQ hA OX HTK
      have c0 : wr.cell? ⟨b, o + k * 8, none⟩ = some (.int .i64 x.kind) := hA 0 _ rfl
      have c1 := hA 1 _ rfl
      have c2 := hA 2 _ rfl
      have c3 := hA 3 _ rfl
      have c4 := hA 4 _ rfl
      have c5 := hA 5 _ rfl
      have c6 := hA 6 _ rfl
      have c7 := hA 7 _ rfl
      obtain ⟨pre, hpre⟩ : ∃ pre, B (tabL 0 (l.take k)) = pre := ⟨_, rfl⟩
      have zp : pre.size ≤ 6000 := by rw [← hpre, B_size]; omega
      obtain ⟨td, htd⟩ : ∃ td, B (decL ((k : Int) + 1)) = td := ⟨_, rfl⟩
      have zd : td.size ≤ 2 := by rw [← htd]; exact dec_len _
      obtain ⟨tr, htr⟩ : ∃ tr, B (thingL x) = tr := ⟨_, rfl⟩
      have zt : tr.size ≤ 62 := by rw [← htr, B_size]; exact thing_len OX.out
      have y1 : ¬ 9223372036854775807 < pre.size + td.size := by omega
      have y2 : ¬ 9223372036854775807 < pre.size + td.size + 1 := by omega
      have y3 : ¬ 9223372036854775807 < pre.size + td.size + 1 + tr.size := by omega
      have HF := Lib.hid (show pre ++ td ++ ⟨#[32]⟩ ++ tr = B (tabL 0 (l.take (k + 1))) by
        rw [← hpre, ← htd, ← htr, HTK.out, show (⟨#[32]⟩ : ByteArray) = B [32] from rfl]
        simp only [B_app, List.append_assoc, List.cons_append, List.nil_append])
      have wk1 : wrap64 ((k : Int) + 1) = (k : Int) + 1 := by unfold wrap64; omega
      have wk2 : IntKind.i64.wrap ((k : Int) + 1) = (k : Int) + 1 := IntWalk.i64_in _ (by omega)
      have wk3 : IntKind.i64.wrap (k : Int) = (k : Int) := IntWalk.i64_in _ (by omega)
      have G1 := Lib.hid (show ∀ y, Calls Tryd.prog 85 #[.int .i64 ((k : Int) + 1)] y fun e w' => e = .returned (.string td) ∧ Below y.heap.size y w' from fun y => htd ▸ l6Dec_all _ y (dec1 (by omega)))
      have G2 := Lib.hid (show ∀ zz : Wd (Kn wr []), Calls Tryd.prog 86 #[x.val ss qs] zz.w fun e w' => e = .returned (.string tr) ∧ Below zz.w.heap.size zz.w w' from fun zz => htr ▸ l3Thing_any x ss qs zz.w OX.out (hR.stay zz.ok.1) (hQ.stay zz.ok.1))
      rw [hpre]
      clear zk zk2 hpre zp zt zd htr htd hx hR hQ hA hTb
      have cc0 := fun zz : Wd (Kn wr []) => stayCell c0 zz.ok.1
      have cc1 := fun zz : Wd (Kn wr []) => stayCell c1 zz.ok.1
      have cc2 := fun zz : Wd (Kn wr []) => stayCell c2 zz.ok.1
      have cc3 := fun zz : Wd (Kn wr []) => stayCell c3 zz.ok.1
      have cc4 := fun zz : Wd (Kn wr []) => stayCell c4 zz.ok.1
      have cc5 := fun zz : Wd (Kn wr []) => stayCell c5 zz.ok.1
      have cc6 := fun zz : Wd (Kn wr []) => stayCell c6 zz.ok.1
      have cc7 := fun zz : Wd (Kn wr []) => stayCell c7 zz.ok.1
      have ne : Nonempty (Wd (Kn wr [])) := ⟨⟨_, Kn.refl⟩⟩
      clear c0 c1 c2 c3 c4 c5 c6 c7
      go_upto_region 5 with fail
      refine wp_region_quiet (C := fun y => ∃ t : Wd (Kn wr []), y = t.w) (by kernel_rfl) (by kernel_rfl) ⟨⟨_, Kn.refl.drew⟩, rfl⟩ ?_
      show wpQuiet _ _ _ _ [_, _, _, _, _, _, _, _, _, _, _, _, _] _
      repeat (first | go_big_quiet_step ((first | (go_at_call 85; with_reducible exact inCls Kn.stay (G1.out _)) | (go_at_call 86; with_reducible exact inCls Kn.stay (G2.out _)))) | quiet_step ((first | (go_at_call 85; with_reducible exact inCls Kn.stay (G1.out _)) | (go_at_call 86; with_reducible exact inCls Kn.stay (G2.out _)))))
      refine wpQuiet_nil ?_
      rintro y9 ⟨⟨_, K9⟩, rfl⟩
      have HK9 := Lib.hid (HK2.out.stay K9.1)
      clear ne cc0 cc1 cc2 cc3 cc4 cc5 cc6 cc7 K9
      go_wp2
      go_roundw
      case rel => exact ⟨k + 1, by omega, by go_num, by rw [← HF.out], HK9.out⟩
      case measure => simp [intOf]; omega
    · have hlt' : ¬ (k : Int) < (l.length : Int) := by omega
      have HJ := Lib.hid (show l.take k = l from List.take_of_length_le (by omega))
      rw [HJ.out]
      go_wp2
      go_ret
      exact ⟨rfl, HK2.out.1⟩

/-- The text of what may be no table. -/
def textV (l : List T8) : ByteArray := if tabOk l then B (tabL 0 l) else ⟨#[]⟩
theorem specTabText_any (l : List T8) (s : Sl) (w : World) (ht : HasT w s l) (hz : l.length ≤ 1048576) (hzs : ∀ i (h : i < l.length), l[i].slots.length ≤ 1048576) :
    Calls Tryd.prog 14 #[.slice s.a s.n s.c] w fun e w' => e = .returned (.string (textV l)) ∧ Below w.heap.size w w' := by
  have HT := Lib.hid ht
  have HZ := Lib.hid hzs
  clear ht hzs
  cases h1 : tabOk l
  · have H1 := Lib.hid (specTabOk_any l s w HT.out hz HZ.out)
    have HV := Lib.hid (show textV l = ⟨#[]⟩ by simp [textV, h1])
    rw [h1] at H1
    clear h1
    go_enter Tryd.func14, Tryd.ntmps14
    go_wp2_with fail
    refine H1.out.mono ?_
    rintro e y1 ⟨rfl, hb⟩
    have HK1 := Lib.hid (Kn.start hb)
    clear hb
    go_wp2
    go_ret
    exact ⟨by rw [HV.out]; rfl, HK1.out.1⟩
  · have H1 := Lib.hid (specTabOk_any l s w HT.out hz HZ.out)
    have HO := Lib.hid (tab_all h1)
    have HL := Lib.hid (tabOk_len h1)
    have HV := Lib.hid (show textV l = B (tabL 0 l) by simp [textV, h1])
    rw [h1] at H1
    clear h1
    go_enter Tryd.func14, Tryd.ntmps14
    go_wp2_with fail
    refine H1.out.mono ?_
    rintro e y1 ⟨rfl, hb⟩
    have HK1 := Lib.hid (Kn.start hb)
    clear hb
    go_wp2_with fail
    refine (l3Text_any l s _ (HT.out.stay HK1.out.1) HO.out (by have := HL.out; omega)).mono ?_
    rintro e y2 ⟨rfl, hb⟩
    have HK2 := Lib.hid (HK1.out.stay hb)
    clear hb HK1
    go_wp2
    go_ret
    exact ⟨by rw [HV.out]; rfl, HK2.out.1⟩
end Go.Proofs.YtpahahonopiblaaDoor
