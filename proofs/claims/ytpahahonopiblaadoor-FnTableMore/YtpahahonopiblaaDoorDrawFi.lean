/-
  A table drawn till it is one, most often.
-/
import Derived.Test.YtpahahonopiblaaDoorDrawTab
namespace Go.Proofs.YtpahahonopiblaaDoor
open Go.RowKit
set_option maxRecDepth 100000
set_option linter.unusedVariables false

theorem TaO.less {n0 n1 : Nat} {W : World} {v : Value} {ts : List Tr} (h : TaO n1 W v ts) (hn : n0 ≤ n1) : TaO n0 W v ts := by
  refine ⟨⟨h.1.1, ?_⟩, fun t ht => ⟨(h.2 t ht).1.less hn, (h.2 t ht).2⟩⟩
  rcases h.1.2 with h4 | ⟨g, cap, cur, e, hb, hg, rest⟩
  · exact .inl h4
  · exact .inr ⟨g, cap, cur, e, by omega, hg, rest⟩
theorem TaO.sizes {n0 : Nat} {W : World} {v : Value} {ts : List Tr} (h : TaO n0 W v ts) : ∀ i (hi : i < (ts.map (fun t : Tr => t.1)).length), ((ts.map (fun t : Tr => t.1))[i]'hi).slots.length ≤ 1048576 := by
  intro i hi
  have hi' : i < ts.length := by simpa using hi
  have := (h.2 _ (List.getElem_mem hi')).1.slots_le
  simp
  omega
theorem specTabOk_val {l : List T8} {s : Sl} {b : Bool} (h : tabOk l = b) (w : World) (ht : HasT w s l) (hz : l.length ≤ 1048576) (hzs : ∀ i (h : i < l.length), l[i].slots.length ≤ 1048576) :
    Calls Tryd.prog 28 #[.slice s.a s.n s.c] w fun e w' => e = .returned (.bool b) ∧ Below w.heap.size w w' := by
  subst h; exact specTabOk_any l s w ht hz hzs

/-- What a table drawn so leaves. -/
def FinePost (r : Nat) (a : Option Addr) (len cap : Nat) (zs : List Int) (p : Nat) (w : World) (e : Ending) (w' : World) : Prop :=
  ∃ (g c : Nat) (ts : List Tr), e = .returned (.slice (some ⟨g, 0, none⟩) ts.length c) ∧ TaO w.heap.size w' (.slice (some ⟨g, 0, none⟩) ts.length c) ts ∧ 3 ≤ ts.length ∧ ts.length ≤ 8 ∧ ∃ p', p' ≤ p + 20000 ∧ Rd w' r a len cap zs p' ∧ Grew r w w'

set_option maxHeartbeats 4000000 in
theorem l71Fine_any (r : Nat) (a : Option Addr) (len cap : Nat) (zs : List Int) (p : Nat) (w : World) (hR : Rd w r a len cap zs p) (hp : p ≤ 200000) :
    Calls Tryd.prog 51 #[.pointer (some ⟨r, 0, none⟩)] w (FinePost r a len cap zs p w) := by
  have S0 := Lib.hid (St.start hR)
  have hrw := S0.out.2.2.1
  clear hR
  unfold FinePost
  go_enter Tryd.func51, Tryd.ntmps51
  go_wp2_with fail
  refine (l71Table_any _ a _ cap zs p _ S0.out.2.1 (by omega)).mono ?_
  rintro e y ⟨g, c, ts, rfl, tO, t3, t8, p1, hp1, r1, g1⟩
  have S1 := Lib.hid (S0.out.on g1 r1)
  have T1 := Lib.hid tO
  clear tO r1 g1 S0
  go_wp2
  go_loopw [3, 4] (fun v i wr => ∃ (k g c : Nat) (ts : List Tr) (p' : Nat), v = .slice (some ⟨g, 0, none⟩) ts.length c ∧ i = .int .i64 k ∧ k ≤ 4 ∧ 3 ≤ ts.length ∧ ts.length ≤ 8 ∧ p' ≤ p + 3000 + 3010 * k ∧ St w r a len cap zs p' [] wr ∧ TaO w.heap.size wr (.slice (some ⟨g, 0, none⟩) ts.length c) ts) (fun _ i _ => 4 - (intOf i).toNat)
  case atStart => exact ⟨0, g, c, ts, p1, rfl, rfl, by omega, t3, t8, by omega, S1.out, T1.out⟩
  case round =>
    clear S1 T1 t3 t8 hp1
    obtain ⟨k, g, c, ts, p2, rfl, rfl, hk, t3, t8, hp2, sK, tK⟩ := hrel
    have SK := Lib.hid sK
    have TK := Lib.hid tK
    clear sK tK
    by_cases hlt : k < 4
    · have hlt' : (k : Int) < 4 := by omega
      go_wp2_with fail
      refine (pick_any _ a _ cap zs p2 16 _ SK.out.2.1 (by omega) (by decide) (by decide)).mono ?_
      rintro e w4 ⟨n1, n1a, n1b, rfl, r4, g4, -⟩
      have S4 := Lib.hid (SK.out.on g4 r4)
      have T4 := Lib.hid (TK.out.grew hrw g4)
      clear r4 g4 SK TK
      by_cases h0 : 0 < n1
      · have HT4 := Lib.hid (TaO.hasT (s := ⟨some ⟨g, 0, none⟩, ts.length, c⟩) T4.out)
        obtain ⟨bk, hbk⟩ : ∃ bk, tabOk (ts.map (·.1)) = bk := ⟨_, rfl⟩
        have HBK := Lib.hid hbk
        clear hbk
        go_wp2_with fail
        refine (specTabOk_val (s := ⟨some ⟨g, 0, none⟩, ts.length, c⟩) HBK.out _ HT4.out (by simp; omega) T4.out.sizes).mono ?_
        rintro e w5 ⟨rfl, hb⟩
        have S5 := Lib.hid (S4.out.stay hb)
        have T5 := Lib.hid (T4.out.stay hb)
        clear hb S4 T4 HT4 HBK
        cases bk
        · go_wp2_with fail
          refine (l71Table_any _ a _ cap zs (p2 + 1) _ S5.out.2.1 (by omega)).mono ?_
          rintro e y2 ⟨g2, c2, ts2, rfl, tO, u3, u8, p3, hp3, r5, g5⟩
          have S6 := Lib.hid (S5.out.on g5 r5)
          have T6 := Lib.hid (tO.less S5.out.1.1.size)
          clear tO r5 g5 S5 T5
          go_wp2
          go_roundw
          case rel => exact ⟨k + 1, g2, c2, ts2, p3, rfl, by go_num, by omega, u3, u8, by omega, S6.out, T6.out⟩
          case measure => simp [intOf]; omega
        · go_wp2
          go_ret
          exact ⟨g, c, ts, rfl, T5.out, t3, t8, p2 + 1, by omega, S5.out.2.1, S5.out.1.1⟩
      · go_wp2
        go_ret
        exact ⟨g, c, ts, rfl, T4.out, t3, t8, p2 + 1, by omega, S4.out.2.1, S4.out.1.1⟩
    · have hlt' : ¬ (k : Int) < 4 := by omega
      go_wp2
      go_ret
      exact ⟨g, c, ts, rfl, TK.out, t3, t8, p2, by omega, SK.out.2.1, SK.out.1.1⟩
end Go.Proofs.YtpahahonopiblaaDoor
