/-
  The text of a table: the program's.
-/
import Derived.Test.YtpahahonopiblaaDoorTxtP
import Derived.Test.YtpahahonopiblaaDoorThgI
namespace Go.Proofs.YtpahahonopiblaaDoor
open Go.RowKit
set_option linter.unusedVariables false
set_option maxRecDepth 100000

/-- A thing's line, without its end. -/
def lineL (x : T8) : List UInt8 := (thingL x).dropLast
theorem lineL_of {x : T8} {t : List UInt8} (h : t ++ [10] = thingL x) : t = lineL x := by unfold lineL; rw [← h]; simp
theorem lineL_end {x : T8} : lineL x ++ [10] = thingL x := by
  unfold lineL
  rw [thingL_head, ← List.append_assoc, List.dropLast_concat]
theorem lineL_len {x : T8} (h : okT x = true) : (B (lineL x)).size ≤ 62 := by
  rw [B_size]; unfold lineL; have := thing_len h; rw [List.length_dropLast]; omega
theorem thingText_val {x : T8} {s q : Sl} {tr : ByteArray} (hv : B (lineL x) = tr) (w : World) (hx : okT x = true) (hR : HasR w s x.slots) (hQ : HasQ w q x.queue) (hf : KF w) (htp : TP w) :
    Calls Tryd.prog 49 #[x.val s q] w fun e w' => e = .returned (.string tr) ∧ Below w.heap.size w w' :=
  (thingText_any x s q w hx hR hQ hf htp).mono fun e w' ⟨t, h1, h2, h3⟩ => ⟨by rw [h1, ← hv, lineL_of h2], h3⟩

set_option maxHeartbeats 8000000 in
theorem implTabText_any (l : List T8) (s : Sl) (w : World) (ht : HasT w s l) (hf : KF w) (htp : TP w) (hz : l.length ≤ 1048576) :
    Calls Tryd.prog 16 #[.slice s.a s.n s.c] w fun e w' => e = .returned (.string (textV l)) ∧ Below w.heap.size w w' := by
  have HT := Lib.hid ht
  have HF := Lib.hid hf
  have HTP := Lib.hid htp
  have SN := Lib.hid ht.1
  clear ht hf htp
  cases h1 : tabOk l
  · have H1 := Lib.hid (implTabOk_val h1 w HT.out HF.out hz)
    have HV := Lib.hid (show textV l = ⟨#[]⟩ by simp [textV, h1])
    clear h1
    go_enter Tryd.func16, Tryd.ntmps16
    go_wp2_with fail
    refine H1.out.mono ?_
    rintro e y1 ⟨rfl, hb⟩
    have HK1 := Lib.hid (Kn.start hb)
    clear hb
    go_wp2
    go_ret
    exact ⟨by rw [HV.out]; rfl, HK1.out.1⟩
  have H1 := Lib.hid (implTabOk_val h1 w HT.out HF.out hz)
  have HOK := Lib.hid (tab_all h1)
  have h8 := (tabOk_len h1).2
  have HV := Lib.hid (show textV l = B (tabL 0 l) by simp [textV, h1])
  clear h1
  go_enter Tryd.func16, Tryd.ntmps16
  go_wp2_with fail
  refine H1.out.mono ?_
  rintro e y1 ⟨rfl, hb⟩
  have HK1 := Lib.hid (Kn.start hb)
  have sn := SN.out
  clear hb H1
  go_wp2
  go_loopw [3, 11] (fun v i wr => ∃ k : Nat, k ≤ l.length ∧ i = .int .i64 k ∧ v = .string (B (tabL 0 (l.take k))) ∧ Kn w [] wr) (fun _ i _ => l.length - (intOf i).toNat)
  case atStart => exact ⟨0, by omega, rfl, by simp [tabL]; rfl, HK1.out⟩
  case round =>
    clear HK1
    obtain ⟨k, hk, rfl, rfl, K2⟩ := hrel
    by_cases hlt : k < l.length
    · have hlt' : (k : Int) < (l.length : Int) := by omega
      obtain ⟨b, o, ea, hTb⟩ := (HT.out.stay K2.1).ne2 hlt
      obtain ⟨ss, qs, hR, hQ, hA⟩ := hTb k hlt
      have OX := Lib.hid (HOK.out l[k] (List.getElem_mem hlt))
      have HTK := Lib.hid (tab_more1 l k hlt)
      have zk := tab_size (l := l.take k) (fun x hx => HOK.out x (List.mem_of_mem_take hx)) 0
      have zk2 : (l.take k).length = k := by rw [List.length_take]; omega
      obtain ⟨x, hx⟩ : ∃ x, l[k] = x := ⟨_, rfl⟩
      rw [hx] at hR hQ hA OX HTK
      have c0 : wr.cell? ⟨b, o + k * 8, none⟩ = some (.int .i64 x.kind) := hA 0 _ rfl
      have c1 := hA 1 _ rfl
      have c2 := hA 2 _ rfl
      have c3 := hA 3 _ rfl
      have c4 := hA 4 _ rfl
      have c5 := hA 5 _ rfl
      have c6 := hA 6 _ rfl
      have c7 := hA 7 _ rfl
      obtain ⟨pre, hpre⟩ : ∃ pre, B (tabL 0 (l.take k)) = pre := ⟨_, rfl⟩
      have zp : pre.size ≤ 6000 := by rw [← hpre, B_size]; omega
      obtain ⟨td, htd⟩ : ∃ td, B (decL ((k : Int) + 1)) = td := ⟨_, rfl⟩
      have zd : td.size ≤ 2 := by rw [← htd]; exact dec_len _
      obtain ⟨tr, htr⟩ : ∃ tr, B (lineL x) = tr := ⟨_, rfl⟩
      have zt : tr.size ≤ 62 := by rw [← htr]; exact lineL_len OX.out
      have y1 : ¬ 9223372036854775807 < td.size + 1 := by omega
      have y2 : ¬ 9223372036854775807 < td.size + 1 + tr.size := by omega
      have y3 : ¬ 9223372036854775807 < td.size + 1 + tr.size + 1 := by omega
      have y4 : ¬ 9223372036854775807 < pre.size + (td.size + 1 + tr.size + 1) := by omega
      have HFT := Lib.hid (show pre ++ (td ++ ⟨#[32]⟩ ++ tr ++ ⟨#[10]⟩) = B (tabL 0 (l.take (k + 1))) by
        rw [← hpre, ← htd, ← htr, HTK.out, ← lineL_end, show (⟨#[32]⟩ : ByteArray) = B [32] from rfl, show (⟨#[10]⟩ : ByteArray) = B [10] from rfl]
        simp only [B_app, List.append_assoc, List.cons_append, List.nil_append])
      have wk1 : wrap64 ((k : Int) + 1) = (k : Int) + 1 := by unfold wrap64; omega
      have wk2 : IntKind.i64.wrap ((k : Int) + 1) = (k : Int) + 1 := IntWalk.i64_in _ (by omega)
      have wk3 : IntKind.i64.wrap (k : Int) = (k : Int) := IntWalk.i64_in _ (by omega)
      have K3 : Kn wr [(wr.heap.size, 37, x.cs ss qs)] (wr.alloc (.cells (x.cs ss qs) 37)) := (Kn.refl (w := wr)).new 37 (x.cs ss qs)
      have G1 := Lib.hid (show ∀ zz : Wd (Kn wr [(wr.heap.size, 37, x.cs ss qs)]), Calls Tryd.prog 48 #[.int .i64 ((k : Int) + 1)] zz.w fun e w' => e = .returned (.string td) ∧ Below zz.w.heap.size zz.w w' from fun zz => itoa_val htd zz.w ((HTP.out.stay K2.1).stay zz.ok.1) (dec1 (by omega)))
      have G2 := Lib.hid (show ∀ zz : Wd (Kn wr [(wr.heap.size, 37, x.cs ss qs)]), Calls Tryd.prog 49 #[x.val ss qs] zz.w fun e w' => e = .returned (.string tr) ∧ Below zz.w.heap.size zz.w w' from fun zz => thingText_val htr zz.w OX.out (hR.stay zz.ok.1) (hQ.stay zz.ok.1) ((HF.out.stay K2.1).stay zz.ok.1) ((HTP.out.stay K2.1).stay zz.ok.1))
      have HK2 := Lib.hid K2
      rw [hpre]
      clear zk zk2 hpre zp zt zd htr htd hx hR hQ hA hTb K2
      go_wp2_with fail
      clear c0 c1 c2 c3 c4 c5 c6 c7
      have cc0 := fun zz : Wd (Kn wr [(wr.heap.size, 37, x.cs ss qs)]) => zz.ok.c (b := wr.heap.size) (T := 37) (vs := x.cs ss qs) (by simp) 0 _ rfl
      have cc1 := fun zz : Wd (Kn wr [(wr.heap.size, 37, x.cs ss qs)]) => zz.ok.c (b := wr.heap.size) (T := 37) (vs := x.cs ss qs) (by simp) 1 _ rfl
      have cc2 := fun zz : Wd (Kn wr [(wr.heap.size, 37, x.cs ss qs)]) => zz.ok.c (b := wr.heap.size) (T := 37) (vs := x.cs ss qs) (by simp) 2 _ rfl
      have cc3 := fun zz : Wd (Kn wr [(wr.heap.size, 37, x.cs ss qs)]) => zz.ok.c (b := wr.heap.size) (T := 37) (vs := x.cs ss qs) (by simp) 3 _ rfl
      have cc4 := fun zz : Wd (Kn wr [(wr.heap.size, 37, x.cs ss qs)]) => zz.ok.c (b := wr.heap.size) (T := 37) (vs := x.cs ss qs) (by simp) 4 _ rfl
      have cc5 := fun zz : Wd (Kn wr [(wr.heap.size, 37, x.cs ss qs)]) => zz.ok.c (b := wr.heap.size) (T := 37) (vs := x.cs ss qs) (by simp) 5 _ rfl
      have cc6 := fun zz : Wd (Kn wr [(wr.heap.size, 37, x.cs ss qs)]) => zz.ok.c (b := wr.heap.size) (T := 37) (vs := x.cs ss qs) (by simp) 6 _ rfl
      have cc7 := fun zz : Wd (Kn wr [(wr.heap.size, 37, x.cs ss qs)]) => zz.ok.c (b := wr.heap.size) (T := 37) (vs := x.cs ss qs) (by simp) 7 _ rfl
      have ne : Nonempty (Wd (Kn wr [(wr.heap.size, 37, x.cs ss qs)])) := ⟨⟨_, K3.drew⟩⟩
      refine wp_region_quiet (C := fun y => ∃ t : Wd (Kn wr [(wr.heap.size, 37, x.cs ss qs)]), y = t.w) (by kernel_rfl) (by kernel_rfl) ⟨⟨_, K3.drew⟩, rfl⟩ ?_
      show wpQuiet _ _ _ _ [_, _, _, _, _, _, _, _, _, _, _] _
      repeat (first | go_big_quiet_step ((first | (go_at_call 48; with_reducible exact inCls Kn.stay (G1.out _)) | (go_at_call 49; with_reducible exact inCls Kn.stay (G2.out _)))) | quiet_step ((first | (go_at_call 48; with_reducible exact inCls Kn.stay (G1.out _)) | (go_at_call 49; with_reducible exact inCls Kn.stay (G2.out _)))))
      refine wpQuiet_nil ?_
      rintro y9 ⟨⟨_, K9⟩, rfl⟩
      have HK9 := Lib.hid (HK2.out.stay K9.1)
      clear ne cc0 cc1 cc2 cc3 cc4 cc5 cc6 cc7 K9 K3
      go_wp2
      go_roundw
      case rel => exact ⟨k + 1, by omega, by go_num, by rw [← HFT.out], HK9.out⟩
      case measure => simp [intOf]; omega
    · have hlt' : ¬ (k : Int) < (l.length : Int) := by omega
      have HJ := Lib.hid (show l.take k = l from List.take_of_length_le (by omega))
      have HK2 := Lib.hid K2
      rw [HJ.out]
      clear K2
      go_wp2
      go_ret
      exact ⟨by rw [HV.out]; rfl, HK2.out.1⟩
theorem implTabText_val {l : List T8} {s : Sl} {t : ByteArray} (h : textV l = t) (w : World) (ht : HasT w s l) (hf : KF w) (htp : TP w) (hz : l.length ≤ 1048576) :
    Calls Tryd.prog 16 #[.slice s.a s.n s.c] w fun e w' => e = .returned (.string t) ∧ Below w.heap.size w w' := by
  subst h; exact implTabText_any l s w ht hf htp hz
theorem specTabText_val {l : List T8} {s : Sl} {t : ByteArray} (h : textV l = t) (w : World) (ht : HasT w s l) (hz : l.length ≤ 1048576) (hzs : ∀ i (h : i < l.length), l[i].slots.length ≤ 1048576) :
    Calls Tryd.prog 14 #[.slice s.a s.n s.c] w fun e w' => e = .returned (.string t) ∧ Below w.heap.size w w' := by
  subst h; exact specTabText_any l s w ht hz hzs
end Go.Proofs.YtpahahonopiblaaDoor
