/-
  Texts of ours as one: DrawFi, DrawCk, DrawCl, DrawCC, Ld, LdT, DrawCD, DoH, LdB, EtOf, ThgL, DoK.
-/
import Derived.Test.YtbopficnajdaoaaGreatDoorDrawTab
import Derived.Test.YtbopficnajdaoaaGreatDoorCkM
import Derived.Deep.CutBlock
import Derived.Test.YtbopficnajdaoaaGreatDoorTabOk
import Derived.Deep.QuietTactic
import Derived.BigQuiet
import Derived.Test.YtbopficnajdaoaaGreatDoorDoM
import Derived.Test.YtbopficnajdaoaaGreatDoorThgI
import Derived.Test.YtbopficnajdaoaaGreatDoorSfM
import Derived.Test.YtbopficnajdaoaaGreatDoorErrAs
import Derived.RowKit
import Derived.RowKitTokens
import Derived.LaidLaws
import Derived.LaidHandle
import Derived.ChangeVars
import Derived.Test.YtbopficnajdaoaaGreatDoorThgA
import Derived.Stop.LaidErr
import Derived.ChangeArms
import Derived.ChangeSame
import Derived.Lib.LaidTab
namespace Go.Proofs.YtbopficnajdaoaaGreatDoor
open Go.RowKit
set_option maxRecDepth 100000
set_option linter.unusedVariables false

theorem TaO.less {n0 n1 : Nat} {W : World} {v : Value} {ts : List Tr} (h : TaO n1 W v ts) (hn : n0 ≤ n1) : TaO n0 W v ts := by
  refine ⟨⟨h.1.1, ?_⟩, fun t ht => ⟨(h.2 t ht).1.less hn, (h.2 t ht).2⟩⟩
  rcases h.1.2 with h4 | ⟨g, cap, cur, e, hb, hg, rest⟩
  · exact .inl h4
  · exact .inr ⟨g, cap, cur, e, by omega, hg, rest⟩
theorem TaO.sizes {n0 : Nat} {W : World} {v : Value} {ts : List Tr} (h : TaO n0 W v ts) : ∀ i (hi : i < (ts.map (fun t : Tr => t.1)).length), ((ts.map (fun t : Tr => t.1))[i]'hi).slots.length ≤ 1048576 := by
  intro i hi
  have hi' : i < ts.length := by simpa using hi
  have := (h.2 _ (List.getElem_mem hi')).1.slots_le
  simp
  omega
theorem specTabOk_val {l : List T8} {s : Sl} {b : Bool} (h : tabOk l = b) (w : World) (ht : HasT w s l) (hz : l.length ≤ 1048576) (hzs : ∀ i (h : i < l.length), l[i].slots.length ≤ 1048576) :
    Calls Tryz.prog 35 #[.slice s.a s.n s.c] w fun e w' => e = .returned (.bool b) ∧ Below w.heap.size w w' := by
  subst h; exact specTabOk_any l s w ht hz hzs

/-- What a table drawn so leaves. -/
def FinePost (r : Nat) (a : Option Addr) (len cap : Nat) (zs : List Int) (p : Nat) (w : World) (e : Ending) (w' : World) : Prop :=
  ∃ (g c : Nat) (ts : List Tr), e = .returned (.slice (some ⟨g, 0, none⟩) ts.length c) ∧ TaO w.heap.size w' (.slice (some ⟨g, 0, none⟩) ts.length c) ts ∧ 3 ≤ ts.length ∧ ts.length ≤ 8 ∧ ∃ p', p' ≤ p + 20000 ∧ Rd w' r a len cap zs p' ∧ Grew r w w'

set_option maxHeartbeats 4000000 in
theorem l71Fine_any (r : Nat) (a : Option Addr) (len cap : Nat) (zs : List Int) (p : Nat) (w : World) (hR : Rd w r a len cap zs p) (hp : p ≤ 200000) :
    Calls Tryz.prog 31 #[.pointer (some ⟨r, 0, none⟩)] w (FinePost r a len cap zs p w) := by
  have S0 := Lib.hid (St.start hR)
  have hrw := S0.out.2.2.1
  clear hR
  unfold FinePost
  go_enter Tryz.func31, Tryz.ntmps31
  go_wp2_with fail
  refine (l71Table_any _ a _ cap zs p _ S0.out.2.1 (by omega)).mono ?_
  rintro e y ⟨g, c, ts, rfl, tO, t3, t8, p1, hp1, r1, g1⟩
  have S1 := Lib.hid (S0.out.on g1 r1)
  have T1 := Lib.hid tO
  clear tO r1 g1 S0
  go_wp2
  go_loopw [3, 4] (fun v i wr => ∃ (k g c : Nat) (ts : List Tr) (p' : Nat), v = .slice (some ⟨g, 0, none⟩) ts.length c ∧ i = .int .i64 k ∧ k ≤ 4 ∧ 3 ≤ ts.length ∧ ts.length ≤ 8 ∧ p' ≤ p + 3000 + 3010 * k ∧ St w r a len cap zs p' [] wr ∧ TaO w.heap.size wr (.slice (some ⟨g, 0, none⟩) ts.length c) ts) (fun _ i _ => 4 - (intOf i).toNat)
  case atStart => exact ⟨0, g, c, ts, p1, rfl, rfl, by omega, t3, t8, by omega, S1.out, T1.out⟩
  case round =>
    clear S1 T1 t3 t8 hp1
    obtain ⟨k, g, c, ts, p2, rfl, rfl, hk, t3, t8, hp2, sK, tK⟩ := hrel
    have SK := Lib.hid sK
    have TK := Lib.hid tK
    clear sK tK
    by_cases hlt : k < 4
    · have hlt' : (k : Int) < 4 := by omega
      go_wp2_with fail
      refine (pick_any _ a _ cap zs p2 16 _ SK.out.2.1 (by omega) (by decide) (by decide)).mono ?_
      rintro e w4 ⟨n1, n1a, n1b, rfl, r4, g4, -⟩
      have S4 := Lib.hid (SK.out.on g4 r4)
      have T4 := Lib.hid (TK.out.grew hrw g4)
      clear r4 g4 SK TK
      by_cases h0 : 0 < n1
      · have HT4 := Lib.hid (TaO.hasT (s := ⟨some ⟨g, 0, none⟩, ts.length, c⟩) T4.out)
        obtain ⟨bk, hbk⟩ : ∃ bk, tabOk (ts.map (·.1)) = bk := ⟨_, rfl⟩
        have HBK := Lib.hid hbk
        clear hbk
        go_wp2_with fail
        refine (specTabOk_val (s := ⟨some ⟨g, 0, none⟩, ts.length, c⟩) HBK.out _ HT4.out (by simp; omega) T4.out.sizes).mono ?_
        rintro e w5 ⟨rfl, hb⟩
        have S5 := Lib.hid (S4.out.stay hb)
        have T5 := Lib.hid (T4.out.stay hb)
        clear hb S4 T4 HT4 HBK
        cases bk
        · go_wp2_with fail
          refine (l71Table_any _ a _ cap zs (p2 + 1) _ S5.out.2.1 (by omega)).mono ?_
          rintro e y2 ⟨g2, c2, ts2, rfl, tO, u3, u8, p3, hp3, r5, g5⟩
          have S6 := Lib.hid (S5.out.on g5 r5)
          have T6 := Lib.hid (tO.less S5.out.1.1.size)
          clear tO r5 g5 S5 T5
          go_wp2
          go_roundw
          case rel => exact ⟨k + 1, g2, c2, ts2, p3, rfl, by go_num, by omega, u3, u8, by omega, S6.out, T6.out⟩
          case measure => simp [intOf]; omega
        · go_wp2
          go_ret
          exact ⟨g, c, ts, rfl, T5.out, t3, t8, p2 + 1, by omega, S5.out.2.1, S5.out.1.1⟩
      · go_wp2
        go_ret
        exact ⟨g, c, ts, rfl, T4.out, t3, t8, p2 + 1, by omega, S4.out.2.1, S4.out.1.1⟩
    · have hlt' : ¬ (k : Int) < 4 := by omega
      go_wp2
      go_ret
      exact ⟨g, c, ts, rfl, TK.out, t3, t8, p2, by omega, SK.out.2.1, SK.out.1.1⟩
end Go.Proofs.YtbopficnajdaoaaGreatDoor

namespace Go.Proofs.YtbopficnajdaoaaGreatDoor
open Go.RowKit
set_option maxRecDepth 100000
set_option linter.unusedVariables false

set_option maxHeartbeats 4000000 in
theorem l71Run_any (r : Nat) (a : Option Addr) (len cap : Nat) (zs : List Int) (p : Nat) (w : World) (hR : Rd w r a len cap zs p) (hp : p ≤ 200000) (n0 g c N : Nat) (ts : List Tr) (hT : TaO n0 w (.slice (some ⟨g, 0, none⟩) N c) ts) (hr : r < n0) (hN : ts.length = N) (h3 : 3 ≤ N) (h8 : N ≤ 8) :
    Calls Tryz.prog 56 #[.pointer (some ⟨r, 0, none⟩), .slice (some ⟨g, 0, none⟩) N c] w fun e w' => ∃ k : Int, e = .returned (.int .i64 k) ∧ 1 ≤ k ∧ k ≤ N ∧ ∃ p', p' ≤ p + 20 ∧ Rd w' r a len cap zs p' ∧ Grew r w w' := by
  have S0 := Lib.hid (St.start hR)
  have T0 := Lib.hid hT
  have HN := Lib.hid hN
  clear hR hT hN
  go_enter Tryz.func56, Tryz.ntmps56
  go_wp2
  go_loopw [5] (fun i wr => ∃ (k p' : Nat), i = .int .i64 k ∧ k ≤ 6 ∧ p' ≤ p + 2 * k ∧ St w r a len cap zs p' [] wr ∧ TaO n0 wr (.slice (some ⟨g, 0, none⟩) N c) ts) (fun i _ => 6 - (intOf i).toNat)
  case atStart => exact ⟨0, p, rfl, by omega, by omega, S0.out, T0.out⟩
  case round =>
    clear S0 T0
    obtain ⟨k, p2, rfl, hk, hp2, sK, tK⟩ := hrel
    have SK := Lib.hid sK
    have TK := Lib.hid tK
    clear sK tK
    by_cases hlt : k < 6
    · have hlt' : (k : Int) < 6 := by omega
      go_wp2_with fail
      refine (pick_any _ a _ cap zs p2 24 _ SK.out.2.1 (by omega) (by decide) (by decide)).mono ?_
      rintro e w4 ⟨n1, n1a, n1b, rfl, r4, g4, -⟩
      have S4 := Lib.hid (SK.out.on g4 r4)
      have T4 := Lib.hid (TK.out.grew hr g4)
      clear r4 g4 SK TK
      by_cases h0 : 0 < n1
      · go_wp2_with fail
        refine (pick_any _ a _ cap zs (p2 + 1) N _ S4.out.2.1 (by omega) (by omega) (by omega)).mono ?_
        rintro e w5 ⟨n2, n2a, n2b, rfl, r5, g5, -⟩
        obtain ⟨i, rfl⟩ : ∃ i : Nat, n2 = i := ⟨n2.toNat, by omega⟩
        have S5 := Lib.hid (S4.out.on g5 r5)
        have T5 := Lib.hid (T4.out.grew hr g5)
        clear r5 g5 S4 T4
        have hiN : i < N := by omega
        have hiN' : (i : Int) < (N : Int) := by omega
        obtain ⟨t, ht⟩ : ∃ t, ts[i]? = some t := ⟨ts[i]'(by rw [HN.out]; exact hiN), List.getElem?_eq_getElem _⟩
        have d0 : w5.cell? ⟨g, i * 8, none⟩ = some (.int .i64 t.1.kind) := T5.out.at ht 0 _ rfl
        generalize t.1.kind = kd at d0
        clear ht
        by_cases hk3 : kd = 3
        · subst hk3
          go_wp2
          go_ret
          exact ⟨_, rfl, by omega, by omega, p2 + 1 + 1, by omega, S5.out.2.1, S5.out.1.1⟩
        · have hk3' : (kd == 3) = false := by simpa using hk3
          go_wp2
          go_roundw
          case rel => exact ⟨k + 1, p2 + 1 + 1, by go_num, by omega, by omega, S5.out, T5.out⟩
          case measure => simp [intOf]; omega
      · go_wp2_with fail
        refine (pick_any _ a _ cap zs (p2 + 1) N _ S4.out.2.1 (by omega) (by omega) (by omega)).mono ?_
        rintro e w5 ⟨n2, n2a, n2b, rfl, r5, g5, -⟩
        have S5 := Lib.hid (S4.out.on g5 r5)
        clear r5 g5 S4 T4
        go_wp2
        go_ret
        exact ⟨_, rfl, by omega, by omega, p2 + 1 + 1, by omega, S5.out.2.1, S5.out.1.1⟩
    · have hlt' : ¬ (k : Int) < 6 := by omega
      go_wp2_with fail
      refine (pick_any _ a _ cap zs p2 N _ SK.out.2.1 (by omega) (by omega) (by omega)).mono ?_
      rintro e w5 ⟨n2, n2a, n2b, rfl, r5, g5, -⟩
      have S5 := Lib.hid (SK.out.on g5 r5)
      clear r5 g5 SK TK
      go_wp2
      go_ret
      exact ⟨_, rfl, by omega, by omega, p2 + 1, by omega, S5.out.2.1, S5.out.1.1⟩

theorem results_tmp3 {P : Program} {fn : Func} {t1 t2 t3 : Tmp} (h : fn.results = #[.tmp t1, .tmp t2, .tmp t3]) (tmps : Array Value) (w : World) :
    (results fn tmps).run P w = .ok (.tuple #[tmps.getD t1 undef, tmps.getD t2 undef, tmps.getD t3 undef]) w := by simp [results, h]
/-- What a table with a runner and a thing, drawn, leaves. -/
def SeesPost (w : World) (e : Ending) (w' : World) : Prop :=
  ∃ (g c : Nat) (l : List T8) (rn tn : Int), e = .returned (.tuple #[.slice (some ⟨g, 0, none⟩) l.length c, .int .i64 rn, .int .i64 tn]) ∧ HasT w' ⟨some ⟨g, 0, none⟩, l.length, c⟩ l ∧ 3 ≤ l.length ∧ l.length ≤ 8 ∧ (∀ i (h : i < l.length), l[i].slots.length ≤ 1048576) ∧ 1 ≤ rn ∧ rn ≤ l.length ∧ 0 ≤ tn ∧ tn ≤ (l.length : Int) + 1 ∧ Below w.heap.size w w'

end Go.Proofs.YtbopficnajdaoaaGreatDoor

namespace Go.Proofs.YtbopficnajdaoaaGreatDoor
open Go.RowKit
set_option maxRecDepth 100000
set_option linter.unusedVariables false

theorem putCA (q : C5) (z : Int) : (C5.cs q).setIfInBounds 2 (.int .i64 z) = C5.cs ⟨q.k, q.r, z, q.b, q.n⟩ := by simp
theorem putCK (q : C5) (z : Int) : (C5.cs q).setIfInBounds 0 (.int .i64 z) = C5.cs ⟨z, q.r, q.a, q.b, q.n⟩ := by simp
theorem putCN (q : C5) (z : Int) : (C5.cs q).setIfInBounds 4 (.int .i64 z) = C5.cs ⟨q.k, q.r, q.a, q.b, z⟩ := by simp
theorem l6In_val3 {n lo hi : Int} {b : Bool} (h : inR n lo hi = b) (w : World) :
    Calls Tryz.prog 57 #[.int .i64 n, .int .i64 lo, .int .i64 hi] w fun e w' => e = .returned (.bool b) ∧ w' = w := (l6In_val h w).mono fun e w' h => ⟨h.1, h.2.symm⟩
theorem St.drewN {w W : World} {r : Nat} {a : Option Addr} {len cap : Nat} {zs : List Int} {p : Nat} {L : List Blk3} (h : St w r a len cap zs p L W) (n : Nat) : St w r a len cap zs p L (W.drewN n) := h.on ((Grew.refl _ _).drewN n) h.2.1
theorem TaO.call {n0 : Nat} {W : World} {v : Value} {ts : List Tr} (h : TaO n0 W v ts) {b i : Nat} {cs : Array Value} (hb : Box W b 25 cs) (u : Value) : TaO n0 (W.setCell ⟨b, i, none⟩ u) v ts :=
  h.keep fun b' T' cs' hb' bx hT => bx.other (Box.ne bx hb (by rcases hT with rfl | rfl | rfl <;> decide)) u
/-- What a call drawn leaves. -/
def CallPost (r : Nat) (a : Option Addr) (len cap : Nat) (zs : List Int) (p : Nat) (w : World) (e : Ending) (w' : World) : Prop :=
  ∃ q : C5, e = .returned (.agg #[.int .i64 q.k, .int .i64 q.r, .int .i64 q.a, .int .i64 q.b, .int .i64 q.n]) ∧ ∃ p', p' ≤ p + 100 ∧ Rd w' r a len cap zs p' ∧ Grew r w w'
theorem infoC : (Tryz.prog.info? 25).map (·.size) = some 5 := by kernel_rfl
theorem one5c (q : C5) : (C5.cs q).all (·.oneCell') = true := by simp [Value.oneCell']

set_option maxHeartbeats 16000000 in
theorem l71Call_any (r : Nat) (a : Option Addr) (len cap : Nat) (zs : List Int) (p : Nat) (w : World) (hR : Rd w r a len cap zs p) (hp : p ≤ 100000) (n0 g c N : Nat) (ts : List Tr) (hT : TaO n0 w (.slice (some ⟨g, 0, none⟩) N c) ts) (hr : r < n0) (hn0 : n0 ≤ w.heap.size) (hN : ts.length = N) (h3 : 3 ≤ N) (h8 : N ≤ 8) :
    Calls Tryz.prog 32 #[.pointer (some ⟨r, 0, none⟩), .slice (some ⟨g, 0, none⟩) N c] w (CallPost r a len cap zs p w) := by
  have S0 := Lib.hid ((St.start hR).new 25 #[.int .i64 0, .int .i64 0, .int .i64 0, .int .i64 0, .int .i64 0])
  have T0 := Lib.hid (hT.stay ((Below.refl _ _).alloc (Nat.le_refl _) (.cells #[.int .i64 0, .int .i64 0, .int .i64 0, .int .i64 0, .int .i64 0] 25)))
  have HN := Lib.hid hN
  have hrw := hr
  clear hR hT hN
  unfold CallPost
  go_enter Tryz.func32, Tryz.ntmps32
  go_wp2_with fail
  refine (pick_any _ a _ cap zs (p) 9 _ S0.out.2.1 (by omega) (by decide) (by decide)).mono ?_
  rintro e x1 ⟨n1, n1a, n1b, rfl, rr, gg, -⟩
  have S1 := Lib.hid (S0.out.on gg rr)
  have T1 := Lib.hid (T0.out.grew hrw gg)
  clear rr gg S0 T0
  go_wp2_with fail
  refine (l71Run_any _ a _ cap zs (p + 1) _ S1.out.2.1 (by omega) n0 g c N ts T1.out hr HN.out h3 h8).mono ?_
  rintro e x2 ⟨rn, rfl, k1, k2, p2, hp2, rr, gg⟩
  have S2 := Lib.hid (S1.out.on gg rr)
  have T2 := Lib.hid (T1.out.grew hrw gg)
  clear rr gg S1 T1
  go_wp2_with fail
  refine (pick_any _ a _ cap zs (p2) 4 _ S2.out.2.1 (by omega) (by decide) (by decide)).mono ?_
  rintro e x3 ⟨n3, n3a, n3b, rfl, rr, gg, -⟩
  have S3 := Lib.hid (S2.out.on gg rr)
  have T3 := Lib.hid (T2.out.grew hrw gg)
  clear rr gg S2 T2
  go_wp2_with fail
  refine (pick_any _ a _ cap zs (p2 + 1) 4 _ S3.out.2.1 (by omega) (by decide) (by decide)).mono ?_
  rintro e x4 ⟨n4, n4a, n4b, rfl, rr, gg, -⟩
  have S4 := Lib.hid (S3.out.on gg rr)
  have T4 := Lib.hid (T3.out.grew hrw gg)
  clear rr gg S3 T3
  go_wp2_with fail
  refine (pick_any _ a _ cap zs (p2 + 1 + 1) 20 _ S4.out.2.1 (by omega) (by decide) (by decide)).mono ?_
  rintro e x5 ⟨n5, n5a, n5b, rfl, rr, gg, -⟩
  have S5 := Lib.hid (S4.out.on gg rr)
  have T5 := Lib.hid (T4.out.grew hrw gg)
  clear rr gg S4 T4
  obtain ⟨W6, hW6⟩ : ∃ W6, x5.alloc (.cells (C5.cs ⟨1 + n1, rn, n3, n4, n5⟩) 25) = W6 := ⟨_, rfl⟩
  have s6 := S5.out.new 25 (C5.cs ⟨1 + n1, rn, n3, n4, n5⟩)
  have t6 := T5.out.stay ((Below.refl _ _).alloc (Nat.le_refl _) (.cells (C5.cs ⟨1 + n1, rn, n3, n4, n5⟩) 25))
  rw [hW6] at s6 t6
  have hx5 : w.heap.size < x5.heap.size := (S5.out.1.2 (w.heap.size, 25, #[.int .i64 0, .int .i64 0, .int .i64 0, .int .i64 0, .int .i64 0]) (by simp)).1.lt
  obtain ⟨cb, hcb⟩ : ∃ cb, x5.heap.size = cb := ⟨_, rfl⟩
  rw [hcb] at s6 hx5
  have S6 := Lib.hid s6
  have T6 := Lib.hid t6
  have hcn : cb ≠ w.heap.size := by omega
  clear s6 t6 S5 T5
  go_upto_block 0 with fail
  go_cut [6] (fun v wx => ∃ (p' : Nat) (q : C5), p' ≤ p + 60 ∧ St w r a len cap zs p' [(cb, 25, C5.cs q), (w.heap.size, 25, #[.int .i64 0, .int .i64 0, .int .i64 0, .int .i64 0, .int .i64 0])] wx)
  case first =>
    go_wp2_with fail
    go_loopw [6] (fun i wr => ∃ (k p' : Nat) (q : C5), i = .int .i64 k ∧ k ≤ 6 ∧ p' ≤ p + 30 + 3 * k ∧ 1 ≤ q.k ∧ q.k ≤ 9 ∧ 1 ≤ q.r ∧ q.r ≤ N ∧ 0 ≤ q.a ∧ q.a ≤ 3 ∧ St w r a len cap zs p' [(cb, 25, C5.cs q), (w.heap.size, 25, #[.int .i64 0, .int .i64 0, .int .i64 0, .int .i64 0, .int .i64 0])] wr ∧ TaO n0 wr (.slice (some ⟨g, 0, none⟩) N c) ts) (fun i _ => 6 - (intOf i).toNat)
    case atStart => exact ⟨0, p2 + 1 + 1 + 1, ⟨1 + n1, rn, n3, n4, n5⟩, rfl, by omega, by omega, by dsimp only; omega, by dsimp only; omega, k1, k2, n3a, by dsimp only; omega, S6.out, T6.out⟩
    case round =>
      clear S6 T6 hW6
      obtain ⟨k, pk, q, rfl, hk, hpk, q1, q2, q3, q4, q5, q6, sK, tK⟩ := hrel
      have SK := Lib.hid sK
      have TK := Lib.hid tK
      clear sK tK
      by_cases hlt : ¬ k < 6
      · have hlt' : ¬ (k : Int) < 6 := by omega
        go_wp2
        go_meet
        exact ⟨pk, q, by omega, SK.out⟩
      have hlt' : (k : Int) < 6 := by omega
      go_wp2_with fail
      refine (pick_any _ a _ cap zs pk 6 _ SK.out.2.1 (by omega) (by decide) (by decide)).mono ?_
      rintro e w4 ⟨m1, m1a, m1b, rfl, rr, gg, -⟩
      have SA := Lib.hid (SK.out.on gg rr)
      have TA := Lib.hid (TK.out.grew hrw gg)
      clear rr gg SK TK
      by_cases hm : ¬ 0 < m1
      · go_wp2
        go_meet
        exact ⟨pk + 1, q, by omega, SA.out⟩
      have hm' : 0 < m1 := by omega
      clear hm
      obtain ⟨b1, hb1⟩ : ∃ b1, isRun (ts.map (fun t : Tr => t.1)) q.r = b1 := ⟨_, rfl⟩
      have HB1 := Lib.hid hb1
      clear hb1
      have HRUN := Lib.hid (fun (y : World) (ht : TaO n0 y (.slice (some ⟨g, 0, none⟩) N c) ts) => by
        have h := l11Run_val (s := ⟨some ⟨g, 0, none⟩, N, c⟩) HB1.out y (TaO.hasT (s := ⟨some ⟨g, 0, none⟩, N, c⟩) ht) (by simp [HN.out]; omega)
        exact h)
      obtain ⟨ck, cr, ca, cbb, cn⟩ := q
      dsimp only at *
      have c0 := SA.out.1.c (b := cb) (T := 25) (vs := C5.cs ⟨ck, cr, ca, cbb, cn⟩) (by simp) 0 _ rfl
      have c1 := SA.out.1.c (b := cb) (T := 25) (vs := C5.cs ⟨ck, cr, ca, cbb, cn⟩) (by simp) 1 _ rfl
      have c2 := SA.out.1.c (b := cb) (T := 25) (vs := C5.cs ⟨ck, cr, ca, cbb, cn⟩) (by simp) 2 _ rfl
      have c3 := SA.out.1.c (b := cb) (T := 25) (vs := C5.cs ⟨ck, cr, ca, cbb, cn⟩) (by simp) 3 _ rfl
      have c4 := SA.out.1.c (b := cb) (T := 25) (vs := C5.cs ⟨ck, cr, ca, cbb, cn⟩) (by simp) 4 _ rfl
      go_wp2_with fail
      refine (HRUN.out _ TA.out).mono ?_
      rintro e y5 ⟨rfl, rfl⟩
      cases b1
      · go_wp2
        go_meet
        exact ⟨pk + 1, _, by omega, SA.out⟩
      obtain ⟨jr, hjr⟩ : ∃ j : Nat, cr - 1 = j := ⟨(cr - 1).toNat, by omega⟩
      obtain rfl : cr = (jr : Int) + 1 := by omega
      have hjN : jr < N := by omega
      have hjN' : (jr : Int) < (N : Int) := by omega
      obtain ⟨t, htt⟩ : ∃ t, ts[jr]? = some t := ⟨ts[jr]'(by rw [HN.out]; exact hjN), List.getElem?_eq_getElem _⟩
      have hA := TA.out.at htt
      have hth := (TA.out.2 t (List.mem_of_getElem? htt)).1
      have f5 := hA 5 _ rfl
      have hbl1 := cell_lt f5
      have wr : wrap64 ((jr : Int) + 1 - 1) = (jr : Int) := by unfold wrap64; omega
      have wr2 : IntKind.i64.wrap (jr : Int) = (jr : Int) := IntWalk.i64_in _ (by omega)
      obtain ⟨x, s, qq⟩ := t
      dsimp only at *
      rcases hth.1 with ⟨hn0', -⟩ | ⟨b, a1, a2, a3, a4, hb, hse, bx, -⟩
      · obtain ⟨sa, sn, sc⟩ := s
        dsimp only at hn0'
        subst hn0'
        clear hA hth htt hjr
        go_wp2
        go_meet
        exact ⟨pk + 1, _, by omega, SA.out⟩
      subst hse
      obtain ⟨ja, rfl⟩ : ∃ ja : Nat, ca = ja := ⟨ca.toNat, by omega⟩
      have hja : ja < 4 := by omega
      have hja' : (ja : Int) < 4 := by omega
      have wa : IntKind.i64.wrap (ja : Int) = (ja : Int) := IntWalk.i64_in _ (by omega)
      obtain ⟨bb, oo, eb, hAt⟩ := (four_has bx).at (i := ja) (show ja < 4 from hja)
      simp only [Option.some.injEq, Addr.mk.injEq] at eb
      obtain ⟨rfl, rfl, -⟩ := eb
      obtain ⟨z, hAt⟩ : ∃ z : R5, At w4 b (0 + ja * 5) z.cs := ⟨_, hAt⟩
      have m0 := hAt 0 _ rfl
      have m1' := hAt 1 _ rfl
      have m2 := hAt 2 _ rfl
      have m3 := hAt 3 _ rfl
      have m4 := hAt 4 _ rfl
      simp only [Nat.zero_add, Nat.add_zero] at m0 m1' m2 m3 m4
      have hbl2 := bx.lt
      have lt0 := cell_lt c2
      clear hA hth htt hjr hAt bx
      obtain ⟨W7, hW7⟩ : ∃ W7, w4.alloc (.cells z.cs 34) = W7 := ⟨_, rfl⟩
      have s7 := SA.out.new 34 z.cs
      have t7 := TA.out.stay ((Below.refl _ _).alloc (Nat.le_refl _) (.cells z.cs 34))
      rw [hW7] at s7 t7
      have S7 := Lib.hid s7
      have T7 := Lib.hid t7
      clear s7 t7
      go_upto_region 5 with fail
      go_region
      obtain ⟨W8, hW8⟩ : ∃ W8, W7.drew = W8 := ⟨_, rfl⟩
      have s8 := S7.out.drew
      have t8 := T7.out.stay (Below.refl _ _).drew
      rw [hW8] at s8 t8 ⊢
      clear hW8 S7 T7
      have S7 := Lib.hid s8
      have T7 := Lib.hid t8
      clear s8 t8
      clear hW7 c0 c1 c2 c3 c4 m0 m1' m2 m3 m4 f5 SA TA
      obtain ⟨zt, zv, zr, zw, zk⟩ := z
      have K9 := Lib.hid (show inR ck 1 9 = true by simp [inR]; omega)
      have e0 : W8.cell? ⟨w4.heap.size, 0, none⟩ = some (.int .i64 zt) := S7.out.1.c (b := w4.heap.size) (T := 34) (vs := R5.cs ⟨zt, zv, zr, zw, zk⟩) (by simp) 0 _ rfl
      have c0 : W8.cell? ⟨cb, 0, none⟩ = some (.int .i64 ck) := S7.out.1.c (b := cb) (T := 25) (vs := C5.cs ⟨ck, (jr : Int) + 1, (ja : Int), cbb, cn⟩) (by simp) 0 _ rfl
      have lt7 := cell_lt e0
      have lt8 := cell_lt c0
      by_cases hc3 : ck = 3
      · subst hc3
        go_upto_region 6 with fail
        go_quiet ((first | (go_at_call 57; refine Calls.quiet_of_same (l6In_val3 rfl _)) | (go_at_call 58; refine Calls.quiet_of_same (l11Kind_any _ _ (by assumption) (by assumption) _))))
        go_wp2
        go_meet
        exact ⟨pk + 1, ⟨3, (jr : Int) + 1, (ja : Int), cbb, cn⟩, by omega, (S7.out.drewN _).less (by simp)⟩
      have hc3' : (ck == 3) = false := by simpa using hc3
      have K3 := Lib.hid hc3
      clear hc3
      obtain ⟨b2, hb2⟩ : ∃ b2, inR zt 1 (N : Int) = b2 := ⟨_, rfl⟩
      have HB2 := Lib.hid hb2
      clear hb2
      cases b2
      · go_upto_region 6 with fail
        go_quiet ((go_at_call 57; refine Calls.quiet_of_same (l6In_val3 HB2.out _)))
        have s8 := (S7.out.drewN nq).less (L' := [(cb, 25, C5.cs ⟨ck, (jr : Int) + 1, (ja : Int), cbb, cn⟩), (w.heap.size, 25, #[.int .i64 0, .int .i64 0, .int .i64 0, .int .i64 0, .int .i64 0])]) (by simp)
        have t8 := T7.out.stay (drewNB (Below.refl _ _) nq)
        obtain ⟨Y, hY⟩ : ∃ Y, W8.drewN nq = Y := ⟨_, rfl⟩
        rw [hY] at s8 t8 ⊢
        have S8 := Lib.hid s8
        have T8 := Lib.hid t8
        clear s8 t8 hY S7 T7 e0 c0
        try clear d0
        go_wp2_with fail
        refine (pick_any _ a _ cap zs (pk + 1) 4 _ S8.out.2.1 (by omega) (by decide) (by decide)).mono ?_
        rintro e x9 ⟨n8, n8a, n8b, rfl, rr, gg, -⟩
        have S9 := Lib.hid (S8.out.on gg rr)
        have T9 := Lib.hid (T8.out.grew hrw gg)
        clear rr gg S8 T8
        have bC := (S9.out.1.2 (cb, 25, C5.cs ⟨ck, (jr : Int) + 1, (ja : Int), cbb, cn⟩) (by simp)).1
        have c2 := bC.cell 2 _ rfl
        have f2 := bC.thaw 2
        have s10 := S9.out.put (fun t ht => by simp at ht; rw [ht]; exact hcn.symm) 2 (.int .i64 n8)
        rw [putCA] at s10
        have t10 := T9.out.call (i := 2) bC (.int .i64 n8)
        have S10 := Lib.hid s10
        have T10 := Lib.hid t10
        clear s10 t10 bC S9 T9
        dsimp only at S10
        go_wp2_with fail
        refine (pick_any _ a _ cap zs (pk + 1 + 1) 9 _ S10.out.2.1 (by omega) (by decide) (by decide)).mono ?_
        rintro e x11 ⟨n9, n9a, n9b, rfl, rr, gg, -⟩
        have S11 := Lib.hid (S10.out.on gg rr)
        have T11 := Lib.hid (T10.out.grew hrw gg)
        clear rr gg S10 T10
        have bC := (S11.out.1.2 (cb, 25, C5.cs ⟨ck, (jr : Int) + 1, n8, cbb, cn⟩) (by simp)).1
        have c0 := bC.cell 0 _ rfl
        have f0 := bC.thaw 0
        have s12 := S11.out.put (fun t ht => by simp at ht; rw [ht]; exact hcn.symm) 0 (.int .i64 (1 + n9))
        rw [putCK] at s12
        have t12 := T11.out.call (i := 0) bC (.int .i64 (1 + n9))
        have S12 := Lib.hid s12
        have T12 := Lib.hid t12
        clear s12 t12 bC S11 T11 c2 f2
        go_wp2
        go_roundw
        case rel => exact ⟨k + 1, pk + 1 + 1 + 1, ⟨1 + n9, (jr : Int) + 1, n8, cbb, cn⟩, by go_num, by omega, by omega, by dsimp only; omega, by dsimp only; omega, by dsimp only; omega, by dsimp only; omega, n8a, by dsimp only; omega, S12.out, T12.out⟩
        case measure => simp [intOf]; omega
      obtain ⟨jn, hjn⟩ : ∃ j : Nat, zt - 1 = j := ⟨(zt - 1).toNat, by have h : 1 ≤ zt ∧ zt ≤ N := (by simpa [inR] using HB2.out); omega⟩
      have hjn2 : jn < N := by have h : 1 ≤ zt ∧ zt ≤ N := (by simpa [inR] using HB2.out); omega
      have hjn' : (jn : Int) < (N : Int) := by omega
      obtain rfl : zt = (jn : Int) + 1 := by omega
      have wn : wrap64 ((jn : Int) + 1 - 1) = (jn : Int) := by unfold wrap64; omega
      have wn2 : IntKind.i64.wrap (jn : Int) = (jn : Int) := IntWalk.i64_in _ (by omega)
      obtain ⟨t', htt⟩ : ∃ t, ts[jn]? = some t := ⟨ts[jn]'(by rw [HN.out]; exact hjn2), List.getElem?_eq_getElem _⟩
      have d0 : W8.cell? ⟨g, jn * 8, none⟩ = some (.int .i64 t'.1.kind) := T7.out.at htt 0 _ rfl
      generalize t'.1.kind = kd at d0
      obtain ⟨b3, hb3⟩ : ∃ b3, kindOk ck kd = b3 := ⟨_, rfl⟩
      have HB3 := Lib.hid hb3
      clear hb3 htt hjn
      cases b3
      · go_upto_region 6 with fail
        go_quiet ((first | (go_at_call 57; refine Calls.quiet_of_same (l6In_val3 HB2.out _)) | (go_at_call 58; refine Calls.quiet_of_same (l11Kind_val HB3.out K9.out K3.out _))))
        have s8 := (S7.out.drewN nq).less (L' := [(cb, 25, C5.cs ⟨ck, (jr : Int) + 1, (ja : Int), cbb, cn⟩), (w.heap.size, 25, #[.int .i64 0, .int .i64 0, .int .i64 0, .int .i64 0, .int .i64 0])]) (by simp)
        have t8 := T7.out.stay (drewNB (Below.refl _ _) nq)
        obtain ⟨Y, hY⟩ : ∃ Y, W8.drewN nq = Y := ⟨_, rfl⟩
        rw [hY] at s8 t8 ⊢
        have S8 := Lib.hid s8
        have T8 := Lib.hid t8
        clear s8 t8 hY S7 T7 e0 c0
        try clear d0
        go_wp2_with fail
        refine (pick_any _ a _ cap zs (pk + 1) 4 _ S8.out.2.1 (by omega) (by decide) (by decide)).mono ?_
        rintro e x9 ⟨n8, n8a, n8b, rfl, rr, gg, -⟩
        have S9 := Lib.hid (S8.out.on gg rr)
        have T9 := Lib.hid (T8.out.grew hrw gg)
        clear rr gg S8 T8
        have bC := (S9.out.1.2 (cb, 25, C5.cs ⟨ck, (jr : Int) + 1, (ja : Int), cbb, cn⟩) (by simp)).1
        have c2 := bC.cell 2 _ rfl
        have f2 := bC.thaw 2
        have s10 := S9.out.put (fun t ht => by simp at ht; rw [ht]; exact hcn.symm) 2 (.int .i64 n8)
        rw [putCA] at s10
        have t10 := T9.out.call (i := 2) bC (.int .i64 n8)
        have S10 := Lib.hid s10
        have T10 := Lib.hid t10
        clear s10 t10 bC S9 T9
        dsimp only at S10
        go_wp2_with fail
        refine (pick_any _ a _ cap zs (pk + 1 + 1) 9 _ S10.out.2.1 (by omega) (by decide) (by decide)).mono ?_
        rintro e x11 ⟨n9, n9a, n9b, rfl, rr, gg, -⟩
        have S11 := Lib.hid (S10.out.on gg rr)
        have T11 := Lib.hid (T10.out.grew hrw gg)
        clear rr gg S10 T10
        have bC := (S11.out.1.2 (cb, 25, C5.cs ⟨ck, (jr : Int) + 1, n8, cbb, cn⟩) (by simp)).1
        have c0 := bC.cell 0 _ rfl
        have f0 := bC.thaw 0
        have s12 := S11.out.put (fun t ht => by simp at ht; rw [ht]; exact hcn.symm) 0 (.int .i64 (1 + n9))
        rw [putCK] at s12
        have t12 := T11.out.call (i := 0) bC (.int .i64 (1 + n9))
        have S12 := Lib.hid s12
        have T12 := Lib.hid t12
        clear s12 t12 bC S11 T11 c2 f2
        go_wp2
        go_roundw
        case rel => exact ⟨k + 1, pk + 1 + 1 + 1, ⟨1 + n9, (jr : Int) + 1, n8, cbb, cn⟩, by go_num, by omega, by omega, by dsimp only; omega, by dsimp only; omega, by dsimp only; omega, by dsimp only; omega, n8a, by dsimp only; omega, S12.out, T12.out⟩
        case measure => simp [intOf]; omega
      · go_upto_region 6 with fail
        go_quiet ((first | (go_at_call 57; refine Calls.quiet_of_same (l6In_val3 HB2.out _)) | (go_at_call 58; refine Calls.quiet_of_same (l11Kind_val HB3.out K9.out K3.out _))))
        go_wp2
        go_meet
        exact ⟨pk + 1, ⟨ck, (jr : Int) + 1, (ja : Int), cbb, cn⟩, by omega, (S7.out.drewN _).less (by simp)⟩
  case rest =>
    clear S6 T6 hW6
    obtain ⟨p3, q, hp3, sC⟩ := hcut
    have SC := Lib.hid sC
    clear sC
    go_wp2_with fail
    refine (pick_any _ a _ cap zs p3 50 _ SC.out.2.1 (by omega) (by decide) (by decide)).mono ?_
    rintro e w3 ⟨m, m0, m50, rfl, rr, gg, -⟩
    have SD := Lib.hid (SC.out.on gg rr)
    clear rr gg SC
    have fin : ∀ (q : C5) (W : World), (∃ p', p' ≤ p + 90 ∧ St w r a len cap zs p' [(cb, 25, C5.cs q), (w.heap.size, 25, #[.int .i64 0, .int .i64 0, .int .i64 0, .int .i64 0, .int .i64 0])] W) → ∃ q' : C5, True := fun q W h => ⟨q, trivial⟩
    clear fin
    by_cases h0 : m = 0
    · subst h0
      have SE := Lib.hid (SD.out.new 3 #[.int .i64 (0), .int .i64 (10)])
      go_wp2_with fail
      refine (pick_any _ a _ cap zs (p3 + 1) 2 _ SE.out.2.1 (by omega) (by decide) (by decide)).mono ?_
      rintro e w5 ⟨u, u0, u2, rfl, rr, gg, -⟩
      have SF := Lib.hid (SE.out.on gg rr)
      clear rr gg SE
      have bI := (SF.out.1.2 (w3.heap.size, 3, #[.int .i64 (0), .int .i64 (10)]) (by simp)).1
      have x0 := bI.cell 0 _ rfl
      have x1 := bI.cell 1 _ rfl
      have bC := (SF.out.1.2 (cb, 25, C5.cs q) (by simp)).1
      have y0 := bC.cell 0 _ rfl
      have z0 := bC.thaw 0
      have hu : u = 0 ∨ u = 1 := by omega
      have hu3 : w3.heap.size ≠ cb := Box.ne (T := 3) (T' := 25) bI bC (by decide)
      clear bI bC
      rcases hu with rfl | rfl
      · have sG := (SF.out.less (L' := [(cb, 25, C5.cs q), (w.heap.size, 25, #[.int .i64 0, .int .i64 0, .int .i64 0, .int .i64 0, .int .i64 0])]) (fun t ht => List.mem_cons_of_mem _ ht)).put (fun t ht => by simp at ht; rw [ht]; exact hcn.symm) 0 (.int .i64 (0))
        rw [putCK] at sG
        obtain ⟨WG, hWG⟩ : ∃ WG, w5.setCell ⟨cb, 0, none⟩ (.int .i64 (0)) = WG := ⟨_, rfl⟩
        rw [hWG] at sG
        have SG := Lib.hid sG
        clear sG SF
        have bR := (SG.out.1.2 (w.heap.size, 25, #[.int .i64 0, .int .i64 0, .int .i64 0, .int .i64 0, .int .i64 0]) (by simp)).1
        have bC := (SG.out.1.2 (cb, 25, C5.cs ⟨0, q.r, q.a, q.b, q.n⟩) (by simp)).1
        have k0 := bR.cell 0 _ rfl
        have k1' := bR.cell 1 _ rfl
        have k2' := bR.cell 2 _ rfl
        have k3' := bR.cell 3 _ rfl
        have k4' := bR.cell 4 _ rfl
        have t0 := bR.thaw 0
        have t1 := bR.thaw 1
        have t2 := bR.thaw 2
        have t3 := bR.thaw 3
        have t4 := bR.thaw 4
        have i0 := bC.cell 0 _ rfl
        have i1 := bC.cell 1 _ rfl
        have i2 := bC.cell 2 _ rfl
        have i3 := bC.cell 3 _ rfl
        have i4 := bC.cell 4 _ rfl
        clear bR bC
        go_wp2
        refine bodyPost_ret (v := .agg (C5.cs ⟨0, q.r, q.a, q.b, q.n⟩)) (by simp [results, Tryz.results32, go_sem, *]) rfl ⟨⟨0, q.r, q.a, q.b, q.n⟩, rfl, p3 + 1 + 1, by omega, ?_⟩
        have sF := SG.out
        have hsw : ∀ t ∈ ([(cb, 25, C5.cs ⟨0, q.r, q.a, q.b, q.n⟩)] : List Blk3), t.1 ≠ w.heap.size := fun t ht => by simp at ht; rw [ht]; exact hcn
        have s1 := (((((sF.less (L' := [(w.heap.size, 25, #[.int .i64 0, .int .i64 0, .int .i64 0, .int .i64 0, .int .i64 0]), (cb, 25, C5.cs ⟨0, q.r, q.a, q.b, q.n⟩)]) (fun t ht => by simp only [List.mem_cons, List.not_mem_nil, or_false] at ht ⊢; exact ht.symm)).put hsw 0 (.int .i64 (C5.k ⟨0, q.r, q.a, q.b, q.n⟩))).put hsw 1 (.int .i64 (C5.r ⟨0, q.r, q.a, q.b, q.n⟩))).put hsw 2 (.int .i64 (C5.a ⟨0, q.r, q.a, q.b, q.n⟩))).put hsw 3 (.int .i64 (C5.b ⟨0, q.r, q.a, q.b, q.n⟩))).put hsw 4 (.int .i64 (C5.n ⟨0, q.r, q.a, q.b, q.n⟩))
        exact ⟨s1.2.1, s1.1.1⟩
      · have sG := (SF.out.less (L' := [(cb, 25, C5.cs q), (w.heap.size, 25, #[.int .i64 0, .int .i64 0, .int .i64 0, .int .i64 0, .int .i64 0])]) (fun t ht => List.mem_cons_of_mem _ ht)).put (fun t ht => by simp at ht; rw [ht]; exact hcn.symm) 0 (.int .i64 (10))
        rw [putCK] at sG
        obtain ⟨WG, hWG⟩ : ∃ WG, w5.setCell ⟨cb, 0, none⟩ (.int .i64 (10)) = WG := ⟨_, rfl⟩
        rw [hWG] at sG
        have SG := Lib.hid sG
        clear sG SF
        have bR := (SG.out.1.2 (w.heap.size, 25, #[.int .i64 0, .int .i64 0, .int .i64 0, .int .i64 0, .int .i64 0]) (by simp)).1
        have bC := (SG.out.1.2 (cb, 25, C5.cs ⟨10, q.r, q.a, q.b, q.n⟩) (by simp)).1
        have k0 := bR.cell 0 _ rfl
        have k1' := bR.cell 1 _ rfl
        have k2' := bR.cell 2 _ rfl
        have k3' := bR.cell 3 _ rfl
        have k4' := bR.cell 4 _ rfl
        have t0 := bR.thaw 0
        have t1 := bR.thaw 1
        have t2 := bR.thaw 2
        have t3 := bR.thaw 3
        have t4 := bR.thaw 4
        have i0 := bC.cell 0 _ rfl
        have i1 := bC.cell 1 _ rfl
        have i2 := bC.cell 2 _ rfl
        have i3 := bC.cell 3 _ rfl
        have i4 := bC.cell 4 _ rfl
        clear bR bC
        go_wp2
        refine bodyPost_ret (v := .agg (C5.cs ⟨10, q.r, q.a, q.b, q.n⟩)) (by simp [results, Tryz.results32, go_sem, *]) rfl ⟨⟨10, q.r, q.a, q.b, q.n⟩, rfl, p3 + 1 + 1, by omega, ?_⟩
        have sF := SG.out
        have hsw : ∀ t ∈ ([(cb, 25, C5.cs ⟨10, q.r, q.a, q.b, q.n⟩)] : List Blk3), t.1 ≠ w.heap.size := fun t ht => by simp at ht; rw [ht]; exact hcn
        have s1 := (((((sF.less (L' := [(w.heap.size, 25, #[.int .i64 0, .int .i64 0, .int .i64 0, .int .i64 0, .int .i64 0]), (cb, 25, C5.cs ⟨10, q.r, q.a, q.b, q.n⟩)]) (fun t ht => by simp only [List.mem_cons, List.not_mem_nil, or_false] at ht ⊢; exact ht.symm)).put hsw 0 (.int .i64 (C5.k ⟨10, q.r, q.a, q.b, q.n⟩))).put hsw 1 (.int .i64 (C5.r ⟨10, q.r, q.a, q.b, q.n⟩))).put hsw 2 (.int .i64 (C5.a ⟨10, q.r, q.a, q.b, q.n⟩))).put hsw 3 (.int .i64 (C5.b ⟨10, q.r, q.a, q.b, q.n⟩))).put hsw 4 (.int .i64 (C5.n ⟨10, q.r, q.a, q.b, q.n⟩))
        exact ⟨s1.2.1, s1.1.1⟩
    have h0' : (m == 0) = false := by simpa using h0
    by_cases h1 : m = 1
    · subst h1
      have SE := Lib.hid (SD.out.new 3 #[.int .i64 (-1), .int .i64 (4)])
      go_wp2_with fail
      refine (pick_any _ a _ cap zs (p3 + 1) 2 _ SE.out.2.1 (by omega) (by decide) (by decide)).mono ?_
      rintro e w5 ⟨u, u0, u2, rfl, rr, gg, -⟩
      have SF := Lib.hid (SE.out.on gg rr)
      clear rr gg SE
      have bI := (SF.out.1.2 (w3.heap.size, 3, #[.int .i64 (-1), .int .i64 (4)]) (by simp)).1
      have x0 := bI.cell 0 _ rfl
      have x1 := bI.cell 1 _ rfl
      have bC := (SF.out.1.2 (cb, 25, C5.cs q) (by simp)).1
      have y0 := bC.cell 2 _ rfl
      have z0 := bC.thaw 2
      have hu : u = 0 ∨ u = 1 := by omega
      have hu3 : w3.heap.size ≠ cb := Box.ne (T := 3) (T' := 25) bI bC (by decide)
      clear bI bC
      rcases hu with rfl | rfl
      · have sG := (SF.out.less (L' := [(cb, 25, C5.cs q), (w.heap.size, 25, #[.int .i64 0, .int .i64 0, .int .i64 0, .int .i64 0, .int .i64 0])]) (fun t ht => List.mem_cons_of_mem _ ht)).put (fun t ht => by simp at ht; rw [ht]; exact hcn.symm) 2 (.int .i64 (-1))
        rw [putCA] at sG
        obtain ⟨WG, hWG⟩ : ∃ WG, w5.setCell ⟨cb, 2, none⟩ (.int .i64 (-1)) = WG := ⟨_, rfl⟩
        rw [hWG] at sG
        have SG := Lib.hid sG
        clear sG SF
        have bR := (SG.out.1.2 (w.heap.size, 25, #[.int .i64 0, .int .i64 0, .int .i64 0, .int .i64 0, .int .i64 0]) (by simp)).1
        have bC := (SG.out.1.2 (cb, 25, C5.cs ⟨q.k, q.r, -1, q.b, q.n⟩) (by simp)).1
        have k0 := bR.cell 0 _ rfl
        have k1' := bR.cell 1 _ rfl
        have k2' := bR.cell 2 _ rfl
        have k3' := bR.cell 3 _ rfl
        have k4' := bR.cell 4 _ rfl
        have t0 := bR.thaw 0
        have t1 := bR.thaw 1
        have t2 := bR.thaw 2
        have t3 := bR.thaw 3
        have t4 := bR.thaw 4
        have i0 := bC.cell 0 _ rfl
        have i1 := bC.cell 1 _ rfl
        have i2 := bC.cell 2 _ rfl
        have i3 := bC.cell 3 _ rfl
        have i4 := bC.cell 4 _ rfl
        clear bR bC
        go_wp2
        refine bodyPost_ret (v := .agg (C5.cs ⟨q.k, q.r, -1, q.b, q.n⟩)) (by simp [results, Tryz.results32, go_sem, *]) rfl ⟨⟨q.k, q.r, -1, q.b, q.n⟩, rfl, p3 + 1 + 1, by omega, ?_⟩
        have sF := SG.out
        have hsw : ∀ t ∈ ([(cb, 25, C5.cs ⟨q.k, q.r, -1, q.b, q.n⟩)] : List Blk3), t.1 ≠ w.heap.size := fun t ht => by simp at ht; rw [ht]; exact hcn
        have s1 := (((((sF.less (L' := [(w.heap.size, 25, #[.int .i64 0, .int .i64 0, .int .i64 0, .int .i64 0, .int .i64 0]), (cb, 25, C5.cs ⟨q.k, q.r, -1, q.b, q.n⟩)]) (fun t ht => by simp only [List.mem_cons, List.not_mem_nil, or_false] at ht ⊢; exact ht.symm)).put hsw 0 (.int .i64 (C5.k ⟨q.k, q.r, -1, q.b, q.n⟩))).put hsw 1 (.int .i64 (C5.r ⟨q.k, q.r, -1, q.b, q.n⟩))).put hsw 2 (.int .i64 (C5.a ⟨q.k, q.r, -1, q.b, q.n⟩))).put hsw 3 (.int .i64 (C5.b ⟨q.k, q.r, -1, q.b, q.n⟩))).put hsw 4 (.int .i64 (C5.n ⟨q.k, q.r, -1, q.b, q.n⟩))
        exact ⟨s1.2.1, s1.1.1⟩
      · have sG := (SF.out.less (L' := [(cb, 25, C5.cs q), (w.heap.size, 25, #[.int .i64 0, .int .i64 0, .int .i64 0, .int .i64 0, .int .i64 0])]) (fun t ht => List.mem_cons_of_mem _ ht)).put (fun t ht => by simp at ht; rw [ht]; exact hcn.symm) 2 (.int .i64 (4))
        rw [putCA] at sG
        obtain ⟨WG, hWG⟩ : ∃ WG, w5.setCell ⟨cb, 2, none⟩ (.int .i64 (4)) = WG := ⟨_, rfl⟩
        rw [hWG] at sG
        have SG := Lib.hid sG
        clear sG SF
        have bR := (SG.out.1.2 (w.heap.size, 25, #[.int .i64 0, .int .i64 0, .int .i64 0, .int .i64 0, .int .i64 0]) (by simp)).1
        have bC := (SG.out.1.2 (cb, 25, C5.cs ⟨q.k, q.r, 4, q.b, q.n⟩) (by simp)).1
        have k0 := bR.cell 0 _ rfl
        have k1' := bR.cell 1 _ rfl
        have k2' := bR.cell 2 _ rfl
        have k3' := bR.cell 3 _ rfl
        have k4' := bR.cell 4 _ rfl
        have t0 := bR.thaw 0
        have t1 := bR.thaw 1
        have t2 := bR.thaw 2
        have t3 := bR.thaw 3
        have t4 := bR.thaw 4
        have i0 := bC.cell 0 _ rfl
        have i1 := bC.cell 1 _ rfl
        have i2 := bC.cell 2 _ rfl
        have i3 := bC.cell 3 _ rfl
        have i4 := bC.cell 4 _ rfl
        clear bR bC
        go_wp2
        refine bodyPost_ret (v := .agg (C5.cs ⟨q.k, q.r, 4, q.b, q.n⟩)) (by simp [results, Tryz.results32, go_sem, *]) rfl ⟨⟨q.k, q.r, 4, q.b, q.n⟩, rfl, p3 + 1 + 1, by omega, ?_⟩
        have sF := SG.out
        have hsw : ∀ t ∈ ([(cb, 25, C5.cs ⟨q.k, q.r, 4, q.b, q.n⟩)] : List Blk3), t.1 ≠ w.heap.size := fun t ht => by simp at ht; rw [ht]; exact hcn
        have s1 := (((((sF.less (L' := [(w.heap.size, 25, #[.int .i64 0, .int .i64 0, .int .i64 0, .int .i64 0, .int .i64 0]), (cb, 25, C5.cs ⟨q.k, q.r, 4, q.b, q.n⟩)]) (fun t ht => by simp only [List.mem_cons, List.not_mem_nil, or_false] at ht ⊢; exact ht.symm)).put hsw 0 (.int .i64 (C5.k ⟨q.k, q.r, 4, q.b, q.n⟩))).put hsw 1 (.int .i64 (C5.r ⟨q.k, q.r, 4, q.b, q.n⟩))).put hsw 2 (.int .i64 (C5.a ⟨q.k, q.r, 4, q.b, q.n⟩))).put hsw 3 (.int .i64 (C5.b ⟨q.k, q.r, 4, q.b, q.n⟩))).put hsw 4 (.int .i64 (C5.n ⟨q.k, q.r, 4, q.b, q.n⟩))
        exact ⟨s1.2.1, s1.1.1⟩
    have h1' : (m == 1) = false := by simpa using h1
    by_cases h2 : m = 2
    · subst h2
      have SE := Lib.hid (SD.out.new 3 #[.int .i64 (-1), .int .i64 (100)])
      go_wp2_with fail
      refine (pick_any _ a _ cap zs (p3 + 1) 2 _ SE.out.2.1 (by omega) (by decide) (by decide)).mono ?_
      rintro e w5 ⟨u, u0, u2, rfl, rr, gg, -⟩
      have SF := Lib.hid (SE.out.on gg rr)
      clear rr gg SE
      have bI := (SF.out.1.2 (w3.heap.size, 3, #[.int .i64 (-1), .int .i64 (100)]) (by simp)).1
      have x0 := bI.cell 0 _ rfl
      have x1 := bI.cell 1 _ rfl
      have bC := (SF.out.1.2 (cb, 25, C5.cs q) (by simp)).1
      have y0 := bC.cell 4 _ rfl
      have z0 := bC.thaw 4
      have hu : u = 0 ∨ u = 1 := by omega
      have hu3 : w3.heap.size ≠ cb := Box.ne (T := 3) (T' := 25) bI bC (by decide)
      clear bI bC
      rcases hu with rfl | rfl
      · have sG := (SF.out.less (L' := [(cb, 25, C5.cs q), (w.heap.size, 25, #[.int .i64 0, .int .i64 0, .int .i64 0, .int .i64 0, .int .i64 0])]) (fun t ht => List.mem_cons_of_mem _ ht)).put (fun t ht => by simp at ht; rw [ht]; exact hcn.symm) 4 (.int .i64 (-1))
        rw [putCN] at sG
        obtain ⟨WG, hWG⟩ : ∃ WG, w5.setCell ⟨cb, 4, none⟩ (.int .i64 (-1)) = WG := ⟨_, rfl⟩
        rw [hWG] at sG
        have SG := Lib.hid sG
        clear sG SF
        have bR := (SG.out.1.2 (w.heap.size, 25, #[.int .i64 0, .int .i64 0, .int .i64 0, .int .i64 0, .int .i64 0]) (by simp)).1
        have bC := (SG.out.1.2 (cb, 25, C5.cs ⟨q.k, q.r, q.a, q.b, -1⟩) (by simp)).1
        have k0 := bR.cell 0 _ rfl
        have k1' := bR.cell 1 _ rfl
        have k2' := bR.cell 2 _ rfl
        have k3' := bR.cell 3 _ rfl
        have k4' := bR.cell 4 _ rfl
        have t0 := bR.thaw 0
        have t1 := bR.thaw 1
        have t2 := bR.thaw 2
        have t3 := bR.thaw 3
        have t4 := bR.thaw 4
        have i0 := bC.cell 0 _ rfl
        have i1 := bC.cell 1 _ rfl
        have i2 := bC.cell 2 _ rfl
        have i3 := bC.cell 3 _ rfl
        have i4 := bC.cell 4 _ rfl
        clear bR bC
        go_wp2
        refine bodyPost_ret (v := .agg (C5.cs ⟨q.k, q.r, q.a, q.b, -1⟩)) (by simp [results, Tryz.results32, go_sem, *]) rfl ⟨⟨q.k, q.r, q.a, q.b, -1⟩, rfl, p3 + 1 + 1, by omega, ?_⟩
        have sF := SG.out
        have hsw : ∀ t ∈ ([(cb, 25, C5.cs ⟨q.k, q.r, q.a, q.b, -1⟩)] : List Blk3), t.1 ≠ w.heap.size := fun t ht => by simp at ht; rw [ht]; exact hcn
        have s1 := (((((sF.less (L' := [(w.heap.size, 25, #[.int .i64 0, .int .i64 0, .int .i64 0, .int .i64 0, .int .i64 0]), (cb, 25, C5.cs ⟨q.k, q.r, q.a, q.b, -1⟩)]) (fun t ht => by simp only [List.mem_cons, List.not_mem_nil, or_false] at ht ⊢; exact ht.symm)).put hsw 0 (.int .i64 (C5.k ⟨q.k, q.r, q.a, q.b, -1⟩))).put hsw 1 (.int .i64 (C5.r ⟨q.k, q.r, q.a, q.b, -1⟩))).put hsw 2 (.int .i64 (C5.a ⟨q.k, q.r, q.a, q.b, -1⟩))).put hsw 3 (.int .i64 (C5.b ⟨q.k, q.r, q.a, q.b, -1⟩))).put hsw 4 (.int .i64 (C5.n ⟨q.k, q.r, q.a, q.b, -1⟩))
        exact ⟨s1.2.1, s1.1.1⟩
      · have sG := (SF.out.less (L' := [(cb, 25, C5.cs q), (w.heap.size, 25, #[.int .i64 0, .int .i64 0, .int .i64 0, .int .i64 0, .int .i64 0])]) (fun t ht => List.mem_cons_of_mem _ ht)).put (fun t ht => by simp at ht; rw [ht]; exact hcn.symm) 4 (.int .i64 (100))
        rw [putCN] at sG
        obtain ⟨WG, hWG⟩ : ∃ WG, w5.setCell ⟨cb, 4, none⟩ (.int .i64 (100)) = WG := ⟨_, rfl⟩
        rw [hWG] at sG
        have SG := Lib.hid sG
        clear sG SF
        have bR := (SG.out.1.2 (w.heap.size, 25, #[.int .i64 0, .int .i64 0, .int .i64 0, .int .i64 0, .int .i64 0]) (by simp)).1
        have bC := (SG.out.1.2 (cb, 25, C5.cs ⟨q.k, q.r, q.a, q.b, 100⟩) (by simp)).1
        have k0 := bR.cell 0 _ rfl
        have k1' := bR.cell 1 _ rfl
        have k2' := bR.cell 2 _ rfl
        have k3' := bR.cell 3 _ rfl
        have k4' := bR.cell 4 _ rfl
        have t0 := bR.thaw 0
        have t1 := bR.thaw 1
        have t2 := bR.thaw 2
        have t3 := bR.thaw 3
        have t4 := bR.thaw 4
        have i0 := bC.cell 0 _ rfl
        have i1 := bC.cell 1 _ rfl
        have i2 := bC.cell 2 _ rfl
        have i3 := bC.cell 3 _ rfl
        have i4 := bC.cell 4 _ rfl
        clear bR bC
        go_wp2
        refine bodyPost_ret (v := .agg (C5.cs ⟨q.k, q.r, q.a, q.b, 100⟩)) (by simp [results, Tryz.results32, go_sem, *]) rfl ⟨⟨q.k, q.r, q.a, q.b, 100⟩, rfl, p3 + 1 + 1, by omega, ?_⟩
        have sF := SG.out
        have hsw : ∀ t ∈ ([(cb, 25, C5.cs ⟨q.k, q.r, q.a, q.b, 100⟩)] : List Blk3), t.1 ≠ w.heap.size := fun t ht => by simp at ht; rw [ht]; exact hcn
        have s1 := (((((sF.less (L' := [(w.heap.size, 25, #[.int .i64 0, .int .i64 0, .int .i64 0, .int .i64 0, .int .i64 0]), (cb, 25, C5.cs ⟨q.k, q.r, q.a, q.b, 100⟩)]) (fun t ht => by simp only [List.mem_cons, List.not_mem_nil, or_false] at ht ⊢; exact ht.symm)).put hsw 0 (.int .i64 (C5.k ⟨q.k, q.r, q.a, q.b, 100⟩))).put hsw 1 (.int .i64 (C5.r ⟨q.k, q.r, q.a, q.b, 100⟩))).put hsw 2 (.int .i64 (C5.a ⟨q.k, q.r, q.a, q.b, 100⟩))).put hsw 3 (.int .i64 (C5.b ⟨q.k, q.r, q.a, q.b, 100⟩))).put hsw 4 (.int .i64 (C5.n ⟨q.k, q.r, q.a, q.b, 100⟩))
        exact ⟨s1.2.1, s1.1.1⟩
    have h2' : (m == 2) = false := by simpa using h2
    have bR := (SD.out.1.2 (w.heap.size, 25, #[.int .i64 0, .int .i64 0, .int .i64 0, .int .i64 0, .int .i64 0]) (by simp)).1
    have bC := (SD.out.1.2 (cb, 25, C5.cs q) (by simp)).1
    have k0 := bR.cell 0 _ rfl
    have k1' := bR.cell 1 _ rfl
    have k2' := bR.cell 2 _ rfl
    have k3' := bR.cell 3 _ rfl
    have k4' := bR.cell 4 _ rfl
    have t0 := bR.thaw 0
    have t1 := bR.thaw 1
    have t2 := bR.thaw 2
    have t3 := bR.thaw 3
    have t4 := bR.thaw 4
    have i0 := bC.cell 0 _ rfl
    have i1 := bC.cell 1 _ rfl
    have i2 := bC.cell 2 _ rfl
    have i3 := bC.cell 3 _ rfl
    have i4 := bC.cell 4 _ rfl
    clear bR bC
    go_wp2
    refine bodyPost_ret (v := .agg (C5.cs q)) (by simp [results, Tryz.results32, go_sem, *]) rfl ⟨q, rfl, p3 + 1, by omega, ?_⟩
    have sF := SD.out
    have hsw : ∀ t ∈ ([(cb, 25, C5.cs q)] : List Blk3), t.1 ≠ w.heap.size := fun t ht => by simp at ht; rw [ht]; exact hcn
    have s1 := (((((sF.less (L' := [(w.heap.size, 25, #[.int .i64 0, .int .i64 0, .int .i64 0, .int .i64 0, .int .i64 0]), (cb, 25, C5.cs q)]) (fun t ht => by simp only [List.mem_cons, List.not_mem_nil, or_false] at ht ⊢; exact ht.symm)).put hsw 0 (.int .i64 (C5.k q))).put hsw 1 (.int .i64 (C5.r q))).put hsw 2 (.int .i64 (C5.a q))).put hsw 3 (.int .i64 (C5.b q))).put hsw 4 (.int .i64 (C5.n q))
    exact ⟨s1.2.1, s1.1.1⟩
end Go.Proofs.YtbopficnajdaoaaGreatDoor

namespace Go.Proofs.YtbopficnajdaoaaGreatDoor
open Go.RowKit
set_option maxRecDepth 100000
set_option linter.unusedVariables false

theorem results_tmp_rowC {P : Program} {fn : Func} {p t1 : Tmp} {ty : TypeId} (h : fn.results = #[.tmp t1, .cell p ty]) (tmps : Array Value) (w : World) (g : Nat) (t : TypeId) (cs : Array Value) (d : TypeDesc)
    (hp : tmps.getD p undef = .pointer (some ⟨g, 0, none⟩)) (hg : Box w g t cs)
    (hu : P.underlying ty = some d) (hd : (match d with | .struct _ | .array _ _ => true | _ => false) = true) (hi : (P.info? ty).map (·.size) = some cs.size) :
    (results fn tmps).run P w = .ok (.tuple #[tmps.getD t1 undef, .agg cs]) w := by
  have hp' : tmps[p]?.getD undef = .pointer (some ⟨g, 0, none⟩) := by simpa using hp
  simp [results, h, hp', asAddr, run_loadVar_row w g t ty cs (0, 0) d hg hu hd hi]
/-- What a table and a call, drawn, leave. -/
def CkPost (w : World) (e : Ending) (w' : World) : Prop :=
  ∃ (g c : Nat) (l : List T8) (q : C5), e = .returned (.tuple #[.slice (some ⟨g, 0, none⟩) l.length c, .agg #[.int .i64 q.k, .int .i64 q.r, .int .i64 q.a, .int .i64 q.b, .int .i64 q.n]]) ∧ HasT w' ⟨some ⟨g, 0, none⟩, l.length, c⟩ l ∧ 3 ≤ l.length ∧ l.length ≤ 8 ∧ (∀ i (h : i < l.length), l[i].slots.length ≤ 1048576) ∧ Below w.heap.size w w'

end Go.Proofs.YtbopficnajdaoaaGreatDoor

namespace Go.Proofs.YtbopficnajdaoaaGreatDoor
open Go.RowKit
set_option maxRecDepth 100000
set_option linter.unusedVariables false

theorem T8.same {x y : T8} (h1 : x.kind = y.kind) (h2 : x.sec = y.sec) (h3 : x.vou = y.vou) (h4 : x.vers = y.vers) (h5 : x.num = y.num) (h6 : x.to = y.to) (h7 : x.slots = y.slots) (h8 : x.queue = y.queue) : x = y := by
  cases x; cases y; simp_all
theorem R5.same {x y : R5} (h1 : x.t = y.t) (h2 : x.v = y.v) (h3 : x.r = y.r) (h4 : x.w = y.w) (h5 : x.k = y.k) : x = y := by
  cases x; cases y; simp_all
theorem beqT {a b : Int} (h : a = b) : (a == b) = true := by simpa using h
theorem beqF {a b : Int} (h : ¬ a = b) : (a == b) = false := by simpa using h
theorem beqBT {a b : Bool} (h : a = b) : (a == b) = true := by simpa using h
theorem beqBF {a b : Bool} (h : ¬ a = b) : (a == b) = false := by cases a <;> cases b <;> simp_all

def LdPost (same : Prop) (w : World) (e : Ending) (w' : World) : Prop := ∃ v : Bool, e = .returned (.bool v) ∧ (v = true ↔ same) ∧ Below w.heap.size w w'
theorem two_box (w : World) (a b : Array Value) : Kn w [(w.heap.size + 1, 40, b), (w.heap.size, 40, a)] ((w.alloc (.cells a 40)).alloc (.cells b 40)) := by
  have k := ((Kn.refl (w := w)).new 40 a).new 40 b
  rw [show (w.alloc (.cells a 40)).heap.size = w.heap.size + 1 by simp] at k
  exact k

set_option maxHeartbeats 2000000 in
theorem ldThing_no0 (ka sb vb ra na tb ka' sb' vb' ra' na' tb' : Int) (sa ta qa pa : Option Addr) (sn tn qn pn sc tc qc pc : Nat) (w : World) (h : ¬ ka = ka') (h' : (ka == ka') = false) (h2 : (ka != ka') = true) :
    Calls Tryz.prog 28 #[.agg #[.int .i64 ka, .int .i64 sb, .int .i64 vb, .int .i64 ra, .int .i64 na, .slice sa sn sc, .slice qa qn qc, .int .i64 tb], .agg #[.int .i64 ka', .int .i64 sb', .int .i64 vb', .int .i64 ra', .int .i64 na', .slice ta tn tc, .slice pa pn pc, .int .i64 tb']] w fun e w' => e = .returned (.bool false) ∧ Below w.heap.size w w' := by
  have HK := Lib.hid (two_box w #[.int .i64 ka, .int .i64 sb, .int .i64 vb, .int .i64 ra, .int .i64 na, .slice sa sn sc, .slice qa qn qc, .int .i64 tb] #[.int .i64 ka', .int .i64 sb', .int .i64 vb', .int .i64 ra', .int .i64 na', .slice ta tn tc, .slice pa pn pc, .int .i64 tb'])
  go_enter Tryz.func28, Tryz.ntmps28
  go_wp2
  go_ret
  exact ⟨rfl, HK.out.1⟩

set_option maxHeartbeats 2000000 in
theorem ldThing_no1 (ka sb vb ra na tb ka' sb' vb' ra' na' tb' : Int) (sa ta qa pa : Option Addr) (sn tn qn pn sc tc qc pc : Nat) (w : World) (h : ¬ sb = sb') (h' : (sb == sb') = false) (h2 : (sb != sb') = true) :
    Calls Tryz.prog 28 #[.agg #[.int .i64 ka, .int .i64 sb, .int .i64 vb, .int .i64 ra, .int .i64 na, .slice sa sn sc, .slice qa qn qc, .int .i64 tb], .agg #[.int .i64 ka, .int .i64 sb', .int .i64 vb', .int .i64 ra', .int .i64 na', .slice ta tn tc, .slice pa pn pc, .int .i64 tb']] w fun e w' => e = .returned (.bool false) ∧ Below w.heap.size w w' := by
  have HK := Lib.hid (two_box w #[.int .i64 ka, .int .i64 sb, .int .i64 vb, .int .i64 ra, .int .i64 na, .slice sa sn sc, .slice qa qn qc, .int .i64 tb] #[.int .i64 ka, .int .i64 sb', .int .i64 vb', .int .i64 ra', .int .i64 na', .slice ta tn tc, .slice pa pn pc, .int .i64 tb'])
  go_enter Tryz.func28, Tryz.ntmps28
  go_wp2
  go_ret
  exact ⟨rfl, HK.out.1⟩

set_option maxHeartbeats 2000000 in
theorem ldThing_no2 (ka sb vb ra na tb ka' sb' vb' ra' na' tb' : Int) (sa ta qa pa : Option Addr) (sn tn qn pn sc tc qc pc : Nat) (w : World) (h : ¬ vb = vb') (h' : (vb == vb') = false) (h2 : (vb != vb') = true) :
    Calls Tryz.prog 28 #[.agg #[.int .i64 ka, .int .i64 sb, .int .i64 vb, .int .i64 ra, .int .i64 na, .slice sa sn sc, .slice qa qn qc, .int .i64 tb], .agg #[.int .i64 ka, .int .i64 sb, .int .i64 vb', .int .i64 ra', .int .i64 na', .slice ta tn tc, .slice pa pn pc, .int .i64 tb']] w fun e w' => e = .returned (.bool false) ∧ Below w.heap.size w w' := by
  have HK := Lib.hid (two_box w #[.int .i64 ka, .int .i64 sb, .int .i64 vb, .int .i64 ra, .int .i64 na, .slice sa sn sc, .slice qa qn qc, .int .i64 tb] #[.int .i64 ka, .int .i64 sb, .int .i64 vb', .int .i64 ra', .int .i64 na', .slice ta tn tc, .slice pa pn pc, .int .i64 tb'])
  go_enter Tryz.func28, Tryz.ntmps28
  go_wp2
  go_ret
  exact ⟨rfl, HK.out.1⟩

set_option maxHeartbeats 2000000 in
theorem ldThing_no3 (ka sb vb ra na tb ka' sb' vb' ra' na' tb' : Int) (sa ta qa pa : Option Addr) (sn tn qn pn sc tc qc pc : Nat) (w : World) (h : ¬ ra = ra') (h' : (ra == ra') = false) (h2 : (ra != ra') = true) :
    Calls Tryz.prog 28 #[.agg #[.int .i64 ka, .int .i64 sb, .int .i64 vb, .int .i64 ra, .int .i64 na, .slice sa sn sc, .slice qa qn qc, .int .i64 tb], .agg #[.int .i64 ka, .int .i64 sb, .int .i64 vb, .int .i64 ra', .int .i64 na', .slice ta tn tc, .slice pa pn pc, .int .i64 tb']] w fun e w' => e = .returned (.bool false) ∧ Below w.heap.size w w' := by
  have HK := Lib.hid (two_box w #[.int .i64 ka, .int .i64 sb, .int .i64 vb, .int .i64 ra, .int .i64 na, .slice sa sn sc, .slice qa qn qc, .int .i64 tb] #[.int .i64 ka, .int .i64 sb, .int .i64 vb, .int .i64 ra', .int .i64 na', .slice ta tn tc, .slice pa pn pc, .int .i64 tb'])
  go_enter Tryz.func28, Tryz.ntmps28
  go_wp2
  go_ret
  exact ⟨rfl, HK.out.1⟩

set_option maxHeartbeats 2000000 in
theorem ldThing_no4 (ka sb vb ra na tb ka' sb' vb' ra' na' tb' : Int) (sa ta qa pa : Option Addr) (sn tn qn pn sc tc qc pc : Nat) (w : World) (h : ¬ na = na') (h' : (na == na') = false) (h2 : (na != na') = true) :
    Calls Tryz.prog 28 #[.agg #[.int .i64 ka, .int .i64 sb, .int .i64 vb, .int .i64 ra, .int .i64 na, .slice sa sn sc, .slice qa qn qc, .int .i64 tb], .agg #[.int .i64 ka, .int .i64 sb, .int .i64 vb, .int .i64 ra, .int .i64 na', .slice ta tn tc, .slice pa pn pc, .int .i64 tb']] w fun e w' => e = .returned (.bool false) ∧ Below w.heap.size w w' := by
  have HK := Lib.hid (two_box w #[.int .i64 ka, .int .i64 sb, .int .i64 vb, .int .i64 ra, .int .i64 na, .slice sa sn sc, .slice qa qn qc, .int .i64 tb] #[.int .i64 ka, .int .i64 sb, .int .i64 vb, .int .i64 ra, .int .i64 na', .slice ta tn tc, .slice pa pn pc, .int .i64 tb'])
  go_enter Tryz.func28, Tryz.ntmps28
  go_wp2
  go_ret
  exact ⟨rfl, HK.out.1⟩

set_option maxHeartbeats 2000000 in
theorem ldThing_no5 (ka sb vb ra na tb ka' sb' vb' ra' na' tb' : Int) (sa ta qa pa : Option Addr) (sn tn qn pn sc tc qc pc : Nat) (w : World) (h : ¬ tb = tb') (h' : (tb == tb') = false) (h2 : (tb != tb') = true) :
    Calls Tryz.prog 28 #[.agg #[.int .i64 ka, .int .i64 sb, .int .i64 vb, .int .i64 ra, .int .i64 na, .slice sa sn sc, .slice qa qn qc, .int .i64 tb], .agg #[.int .i64 ka, .int .i64 sb, .int .i64 vb, .int .i64 ra, .int .i64 na, .slice ta tn tc, .slice pa pn pc, .int .i64 tb']] w fun e w' => e = .returned (.bool false) ∧ Below w.heap.size w w' := by
  have HK := Lib.hid (two_box w #[.int .i64 ka, .int .i64 sb, .int .i64 vb, .int .i64 ra, .int .i64 na, .slice sa sn sc, .slice qa qn qc, .int .i64 tb] #[.int .i64 ka, .int .i64 sb, .int .i64 vb, .int .i64 ra, .int .i64 na, .slice ta tn tc, .slice pa pn pc, .int .i64 tb'])
  go_enter Tryz.func28, Tryz.ntmps28
  go_wp2
  go_ret
  exact ⟨rfl, HK.out.1⟩

set_option maxHeartbeats 2000000 in
theorem ldThing_no6 (ka sb vb ra na tb ka' sb' vb' ra' na' tb' : Int) (sa ta qa pa : Option Addr) (sn tn qn pn sc tc qc pc : Nat) (w : World) (h : ¬ sn = tn) (h' : ((sn : Int) == (tn : Int)) = false) (h2 : ((sn : Int) != (tn : Int)) = true) :
    Calls Tryz.prog 28 #[.agg #[.int .i64 ka, .int .i64 sb, .int .i64 vb, .int .i64 ra, .int .i64 na, .slice sa sn sc, .slice qa qn qc, .int .i64 tb], .agg #[.int .i64 ka, .int .i64 sb, .int .i64 vb, .int .i64 ra, .int .i64 na, .slice ta tn tc, .slice pa pn pc, .int .i64 tb]] w fun e w' => e = .returned (.bool false) ∧ Below w.heap.size w w' := by
  have HK := Lib.hid (two_box w #[.int .i64 ka, .int .i64 sb, .int .i64 vb, .int .i64 ra, .int .i64 na, .slice sa sn sc, .slice qa qn qc, .int .i64 tb] #[.int .i64 ka, .int .i64 sb, .int .i64 vb, .int .i64 ra, .int .i64 na, .slice ta tn tc, .slice pa pn pc, .int .i64 tb])
  go_enter Tryz.func28, Tryz.ntmps28
  go_wp2
  go_ret
  exact ⟨rfl, HK.out.1⟩

set_option maxHeartbeats 2000000 in
theorem ldThing_no7 (ka sb vb ra na tb ka' sb' vb' ra' na' tb' : Int) (sa ta qa pa : Option Addr) (sn tn qn pn sc tc qc pc : Nat) (w : World) (h : ¬ qn = pn) (h' : ((qn : Int) == (pn : Int)) = false) (h2 : ((qn : Int) != (pn : Int)) = true) :
    Calls Tryz.prog 28 #[.agg #[.int .i64 ka, .int .i64 sb, .int .i64 vb, .int .i64 ra, .int .i64 na, .slice sa sn sc, .slice qa qn qc, .int .i64 tb], .agg #[.int .i64 ka, .int .i64 sb, .int .i64 vb, .int .i64 ra, .int .i64 na, .slice ta sn tc, .slice pa pn pc, .int .i64 tb]] w fun e w' => e = .returned (.bool false) ∧ Below w.heap.size w w' := by
  have HK := Lib.hid (two_box w #[.int .i64 ka, .int .i64 sb, .int .i64 vb, .int .i64 ra, .int .i64 na, .slice sa sn sc, .slice qa qn qc, .int .i64 tb] #[.int .i64 ka, .int .i64 sb, .int .i64 vb, .int .i64 ra, .int .i64 na, .slice ta sn tc, .slice pa pn pc, .int .i64 tb])
  go_enter Tryz.func28, Tryz.ntmps28
  go_wp2
  go_ret
  exact ⟨rfl, HK.out.1⟩

set_option maxHeartbeats 8000000 in
theorem ldThing_deep (ka sb vb ra na tb : Int) (xs ys : List R5) (xq yq : List Int) (sa ta qa pa : Option Addr) (sn qn sc tc qc pc : Nat) (w : World)
    (hs : HasR w ⟨sa, sn, sc⟩ xs) (hq : HasQ w ⟨qa, qn, qc⟩ xq) (ht : HasR w ⟨ta, sn, tc⟩ ys) (hp : HasQ w ⟨pa, qn, pc⟩ yq) (hz : sn ≤ 1048576) (hzq : qn ≤ 1048576) :
    Calls Tryz.prog 28 #[.agg (#[.int .i64 ka, .int .i64 sb, .int .i64 vb, .int .i64 ra, .int .i64 na, .slice sa sn sc, .slice qa qn qc, .int .i64 tb]), .agg (#[.int .i64 ka, .int .i64 sb, .int .i64 vb, .int .i64 ra, .int .i64 na, .slice ta sn tc, .slice pa qn pc, .int .i64 tb])] w (LdPost (xs = ys ∧ xq = yq) w) := by
  have HK := Lib.hid (two_box w (#[.int .i64 ka, .int .i64 sb, .int .i64 vb, .int .i64 ra, .int .i64 na, .slice sa sn sc, .slice qa qn qc, .int .i64 tb]) (#[.int .i64 ka, .int .i64 sb, .int .i64 vb, .int .i64 ra, .int .i64 na, .slice ta sn tc, .slice pa qn pc, .int .i64 tb]))
  have HS := Lib.hid hs
  have HQ := Lib.hid hq
  have HT := Lib.hid ht
  have HP := Lib.hid hp
  clear hs hq ht hp
  unfold LdPost
  go_enter Tryz.func28, Tryz.ntmps28
  go_wp2
  go_loopw [5] (fun i wr => ∃ k : Nat, k ≤ sn ∧ i = .int .i64 k ∧ Kn w [(w.heap.size + 1, 40, #[.int .i64 ka, .int .i64 sb, .int .i64 vb, .int .i64 ra, .int .i64 na, .slice ta sn tc, .slice pa qn pc, .int .i64 tb]), (w.heap.size, 40, #[.int .i64 ka, .int .i64 sb, .int .i64 vb, .int .i64 ra, .int .i64 na, .slice sa sn sc, .slice qa qn qc, .int .i64 tb])] wr ∧ ∀ j, j < k → xs[j]? = ys[j]?) (fun i _ => sn - (intOf i).toNat)
  case atStart => exact ⟨0, by omega, rfl, HK.out, fun j hj => absurd hj (by omega)⟩
  case round =>
    obtain ⟨k, hk, rfl, K1, hok⟩ := hrel
    have HK1 := Lib.hid K1
    have HOK := Lib.hid hok
    clear K1 hok
    have c0 := HK1.out.c (b := w.heap.size) (T := 40) (vs := #[.int .i64 ka, .int .i64 sb, .int .i64 vb, .int .i64 ra, .int .i64 na, .slice sa sn sc, .slice qa qn qc, .int .i64 tb]) (by simp) 0 _ rfl
    have c1 := HK1.out.c (b := w.heap.size) (T := 40) (vs := #[.int .i64 ka, .int .i64 sb, .int .i64 vb, .int .i64 ra, .int .i64 na, .slice sa sn sc, .slice qa qn qc, .int .i64 tb]) (by simp) 1 _ rfl
    have c2 := HK1.out.c (b := w.heap.size) (T := 40) (vs := #[.int .i64 ka, .int .i64 sb, .int .i64 vb, .int .i64 ra, .int .i64 na, .slice sa sn sc, .slice qa qn qc, .int .i64 tb]) (by simp) 2 _ rfl
    have c3 := HK1.out.c (b := w.heap.size) (T := 40) (vs := #[.int .i64 ka, .int .i64 sb, .int .i64 vb, .int .i64 ra, .int .i64 na, .slice sa sn sc, .slice qa qn qc, .int .i64 tb]) (by simp) 3 _ rfl
    have c4 := HK1.out.c (b := w.heap.size) (T := 40) (vs := #[.int .i64 ka, .int .i64 sb, .int .i64 vb, .int .i64 ra, .int .i64 na, .slice sa sn sc, .slice qa qn qc, .int .i64 tb]) (by simp) 4 _ rfl
    have c5 := HK1.out.c (b := w.heap.size) (T := 40) (vs := #[.int .i64 ka, .int .i64 sb, .int .i64 vb, .int .i64 ra, .int .i64 na, .slice sa sn sc, .slice qa qn qc, .int .i64 tb]) (by simp) 5 _ rfl
    have c6 := HK1.out.c (b := w.heap.size) (T := 40) (vs := #[.int .i64 ka, .int .i64 sb, .int .i64 vb, .int .i64 ra, .int .i64 na, .slice sa sn sc, .slice qa qn qc, .int .i64 tb]) (by simp) 6 _ rfl
    have c7 := HK1.out.c (b := w.heap.size) (T := 40) (vs := #[.int .i64 ka, .int .i64 sb, .int .i64 vb, .int .i64 ra, .int .i64 na, .slice sa sn sc, .slice qa qn qc, .int .i64 tb]) (by simp) 7 _ rfl
    have d0 := HK1.out.c (b := w.heap.size + 1) (T := 40) (vs := #[.int .i64 ka, .int .i64 sb, .int .i64 vb, .int .i64 ra, .int .i64 na, .slice ta sn tc, .slice pa qn pc, .int .i64 tb]) (by simp) 0 _ rfl
    have d1 := HK1.out.c (b := w.heap.size + 1) (T := 40) (vs := #[.int .i64 ka, .int .i64 sb, .int .i64 vb, .int .i64 ra, .int .i64 na, .slice ta sn tc, .slice pa qn pc, .int .i64 tb]) (by simp) 1 _ rfl
    have d2 := HK1.out.c (b := w.heap.size + 1) (T := 40) (vs := #[.int .i64 ka, .int .i64 sb, .int .i64 vb, .int .i64 ra, .int .i64 na, .slice ta sn tc, .slice pa qn pc, .int .i64 tb]) (by simp) 2 _ rfl
    have d3 := HK1.out.c (b := w.heap.size + 1) (T := 40) (vs := #[.int .i64 ka, .int .i64 sb, .int .i64 vb, .int .i64 ra, .int .i64 na, .slice ta sn tc, .slice pa qn pc, .int .i64 tb]) (by simp) 3 _ rfl
    have d4 := HK1.out.c (b := w.heap.size + 1) (T := 40) (vs := #[.int .i64 ka, .int .i64 sb, .int .i64 vb, .int .i64 ra, .int .i64 na, .slice ta sn tc, .slice pa qn pc, .int .i64 tb]) (by simp) 4 _ rfl
    have d5 := HK1.out.c (b := w.heap.size + 1) (T := 40) (vs := #[.int .i64 ka, .int .i64 sb, .int .i64 vb, .int .i64 ra, .int .i64 na, .slice ta sn tc, .slice pa qn pc, .int .i64 tb]) (by simp) 5 _ rfl
    have d6 := HK1.out.c (b := w.heap.size + 1) (T := 40) (vs := #[.int .i64 ka, .int .i64 sb, .int .i64 vb, .int .i64 ra, .int .i64 na, .slice ta sn tc, .slice pa qn pc, .int .i64 tb]) (by simp) 6 _ rfl
    have d7 := HK1.out.c (b := w.heap.size + 1) (T := 40) (vs := #[.int .i64 ka, .int .i64 sb, .int .i64 vb, .int .i64 ra, .int .i64 na, .slice ta sn tc, .slice pa qn pc, .int .i64 tb]) (by simp) 7 _ rfl
    by_cases hlt : k < sn
    · have hlt' : (k : Int) < (sn : Int) := by omega
      have hxl : k < xs.length := by rw [← HS.out.len]; exact hlt
      have hyl : k < ys.length := by rw [← HT.out.len]; exact hlt
      obtain ⟨b1, o1, a1, hA⟩ := (HS.out.stay HK1.out.1).at hxl
      obtain ⟨b2, o2, a2, hB⟩ := (HT.out.stay HK1.out.1).at hyl
      have HX := Lib.hid (show xs[k]? = some xs[k] from List.getElem?_eq_getElem hxl)
      have HY := Lib.hid (show ys[k]? = some ys[k] from List.getElem?_eq_getElem hyl)
      generalize xs[k] = r1 at *
      generalize ys[k] = r2 at *
      have m0 : wr.cell? ⟨b1, o1 + k * 5, none⟩ = some (.int .i64 r1.t) := hA 0 _ rfl
      have m1 := hA 1 _ rfl
      have m2 := hA 2 _ rfl
      have m3 := hA 3 _ rfl
      have m4 := hA 4 _ rfl
      have n0 : wr.cell? ⟨b2, o2 + k * 5, none⟩ = some (.int .i64 r2.t) := hB 0 _ rfl
      have n1 := hB 1 _ rfl
      have n2 := hB 2 _ rfl
      have n3 := hB 3 _ rfl
      have n4 := hB 4 _ rfl
      clear hA hB hxl hyl
      subst a1 a2
      go_upto_region 6 with fail
      by_cases g0 : r1.t = r2.t
      case neg =>
        have g0' := beqF g0
        have HN := Lib.hid (show ¬ (xs = ys ∧ xq = yq) from fun e => g0 (by have h1 := HX.out; have h2 := HY.out; rw [e.1, h2] at h1; cases h1; rfl))
        clear g0
        go_quiet (fail)
        go_wp2
        go_ret
        exact ⟨false, rfl, ⟨fun h => (by cases h), fun h => absurd h HN.out⟩, (HK1.out.drewN _).1⟩
      have g0' := beqT g0
      by_cases g1 : r1.v = r2.v
      case neg =>
        have g1' := beqF g1
        have HN := Lib.hid (show ¬ (xs = ys ∧ xq = yq) from fun e => g1 (by have h1 := HX.out; have h2 := HY.out; rw [e.1, h2] at h1; cases h1; rfl))
        clear g1
        go_quiet (fail)
        go_wp2
        go_ret
        exact ⟨false, rfl, ⟨fun h => (by cases h), fun h => absurd h HN.out⟩, (HK1.out.drewN _).1⟩
      have g1' := beqT g1
      by_cases g2 : r1.r = r2.r
      case neg =>
        have g2' := beqBF g2
        have HN := Lib.hid (show ¬ (xs = ys ∧ xq = yq) from fun e => g2 (by have h1 := HX.out; have h2 := HY.out; rw [e.1, h2] at h1; cases h1; rfl))
        clear g2
        go_quiet (fail)
        go_wp2
        go_ret
        exact ⟨false, rfl, ⟨fun h => (by cases h), fun h => absurd h HN.out⟩, (HK1.out.drewN _).1⟩
      have g2' := beqBT g2
      by_cases g3 : r1.w = r2.w
      case neg =>
        have g3' := beqBF g3
        have HN := Lib.hid (show ¬ (xs = ys ∧ xq = yq) from fun e => g3 (by have h1 := HX.out; have h2 := HY.out; rw [e.1, h2] at h1; cases h1; rfl))
        clear g3
        go_quiet (fail)
        go_wp2
        go_ret
        exact ⟨false, rfl, ⟨fun h => (by cases h), fun h => absurd h HN.out⟩, (HK1.out.drewN _).1⟩
      have g3' := beqBT g3
      by_cases g4 : r1.k = r2.k
      case neg =>
        have g4' := beqBF g4
        have HN := Lib.hid (show ¬ (xs = ys ∧ xq = yq) from fun e => g4 (by have h1 := HX.out; have h2 := HY.out; rw [e.1, h2] at h1; cases h1; rfl))
        clear g4
        go_quiet (fail)
        go_wp2
        go_ret
        exact ⟨false, rfl, ⟨fun h => (by cases h), fun h => absurd h HN.out⟩, (HK1.out.drewN _).1⟩
      have g4' := beqBT g4
      have HN := Lib.hid (show r1 = r2 from R5.same g0 g1 g2 g3 g4)
      clear g0 g1 g2 g3 g4
      go_quiet (fail)
      go_wp2
      go_roundw
      case rel =>
        refine ⟨k + 1, by omega, by go_num, HK1.out.drewN _, fun j hj => ?_⟩
        by_cases hjk : j = k
        · subst hjk; rw [HX.out, HY.out, HN.out]
        · exact HOK.out j (by omega)
      case measure => simp [intOf]; omega
    · have hlt' : ¬ (k : Int) < (sn : Int) := by omega
      have HSS := Lib.hid (show xs = ys by
        have l1 := HS.out.len
        have l2 := HT.out.len
        simp only at l1 l2
        apply List.ext_getElem?
        intro j
        by_cases hj : j < k
        · exact HOK.out j hj
        · rw [List.getElem?_eq_none (by omega), List.getElem?_eq_none (by omega)])
      have HJ := Lib.hid (show k = sn by omega)
      clear HOK hk hlt
      go_wp2
      clear hlt' c0 c1 c2 c3 c4 c5 c6 c7 d0 d1 d2 d3 d4 d5 d6 d7
      go_loopw [6] (fun i wr => ∃ k : Nat, k ≤ qn ∧ i = .int .i64 k ∧ Kn w [(w.heap.size + 1, 40, #[.int .i64 ka, .int .i64 sb, .int .i64 vb, .int .i64 ra, .int .i64 na, .slice ta sn tc, .slice pa qn pc, .int .i64 tb]), (w.heap.size, 40, #[.int .i64 ka, .int .i64 sb, .int .i64 vb, .int .i64 ra, .int .i64 na, .slice sa sn sc, .slice qa qn qc, .int .i64 tb])] wr ∧ ∀ j, j < k → xq[j]? = yq[j]?) (fun i _ => qn - (intOf i).toNat)
      case atStart => exact ⟨0, by omega, rfl, HK1.out, fun j hj => absurd hj (by omega)⟩
      case round =>
        obtain ⟨m, hm, rfl, K2, hok⟩ := hrel
        have HK2 := Lib.hid K2
        have HOK := Lib.hid hok
        clear K2 hok
        have c0 := HK2.out.c (b := w.heap.size) (T := 40) (vs := #[.int .i64 ka, .int .i64 sb, .int .i64 vb, .int .i64 ra, .int .i64 na, .slice sa sn sc, .slice qa qn qc, .int .i64 tb]) (by simp) 0 _ rfl
        have c1 := HK2.out.c (b := w.heap.size) (T := 40) (vs := #[.int .i64 ka, .int .i64 sb, .int .i64 vb, .int .i64 ra, .int .i64 na, .slice sa sn sc, .slice qa qn qc, .int .i64 tb]) (by simp) 1 _ rfl
        have c2 := HK2.out.c (b := w.heap.size) (T := 40) (vs := #[.int .i64 ka, .int .i64 sb, .int .i64 vb, .int .i64 ra, .int .i64 na, .slice sa sn sc, .slice qa qn qc, .int .i64 tb]) (by simp) 2 _ rfl
        have c3 := HK2.out.c (b := w.heap.size) (T := 40) (vs := #[.int .i64 ka, .int .i64 sb, .int .i64 vb, .int .i64 ra, .int .i64 na, .slice sa sn sc, .slice qa qn qc, .int .i64 tb]) (by simp) 3 _ rfl
        have c4 := HK2.out.c (b := w.heap.size) (T := 40) (vs := #[.int .i64 ka, .int .i64 sb, .int .i64 vb, .int .i64 ra, .int .i64 na, .slice sa sn sc, .slice qa qn qc, .int .i64 tb]) (by simp) 4 _ rfl
        have c5 := HK2.out.c (b := w.heap.size) (T := 40) (vs := #[.int .i64 ka, .int .i64 sb, .int .i64 vb, .int .i64 ra, .int .i64 na, .slice sa sn sc, .slice qa qn qc, .int .i64 tb]) (by simp) 5 _ rfl
        have c6 := HK2.out.c (b := w.heap.size) (T := 40) (vs := #[.int .i64 ka, .int .i64 sb, .int .i64 vb, .int .i64 ra, .int .i64 na, .slice sa sn sc, .slice qa qn qc, .int .i64 tb]) (by simp) 6 _ rfl
        have c7 := HK2.out.c (b := w.heap.size) (T := 40) (vs := #[.int .i64 ka, .int .i64 sb, .int .i64 vb, .int .i64 ra, .int .i64 na, .slice sa sn sc, .slice qa qn qc, .int .i64 tb]) (by simp) 7 _ rfl
        have d0 := HK2.out.c (b := w.heap.size + 1) (T := 40) (vs := #[.int .i64 ka, .int .i64 sb, .int .i64 vb, .int .i64 ra, .int .i64 na, .slice ta sn tc, .slice pa qn pc, .int .i64 tb]) (by simp) 0 _ rfl
        have d1 := HK2.out.c (b := w.heap.size + 1) (T := 40) (vs := #[.int .i64 ka, .int .i64 sb, .int .i64 vb, .int .i64 ra, .int .i64 na, .slice ta sn tc, .slice pa qn pc, .int .i64 tb]) (by simp) 1 _ rfl
        have d2 := HK2.out.c (b := w.heap.size + 1) (T := 40) (vs := #[.int .i64 ka, .int .i64 sb, .int .i64 vb, .int .i64 ra, .int .i64 na, .slice ta sn tc, .slice pa qn pc, .int .i64 tb]) (by simp) 2 _ rfl
        have d3 := HK2.out.c (b := w.heap.size + 1) (T := 40) (vs := #[.int .i64 ka, .int .i64 sb, .int .i64 vb, .int .i64 ra, .int .i64 na, .slice ta sn tc, .slice pa qn pc, .int .i64 tb]) (by simp) 3 _ rfl
        have d4 := HK2.out.c (b := w.heap.size + 1) (T := 40) (vs := #[.int .i64 ka, .int .i64 sb, .int .i64 vb, .int .i64 ra, .int .i64 na, .slice ta sn tc, .slice pa qn pc, .int .i64 tb]) (by simp) 4 _ rfl
        have d5 := HK2.out.c (b := w.heap.size + 1) (T := 40) (vs := #[.int .i64 ka, .int .i64 sb, .int .i64 vb, .int .i64 ra, .int .i64 na, .slice ta sn tc, .slice pa qn pc, .int .i64 tb]) (by simp) 5 _ rfl
        have d6 := HK2.out.c (b := w.heap.size + 1) (T := 40) (vs := #[.int .i64 ka, .int .i64 sb, .int .i64 vb, .int .i64 ra, .int .i64 na, .slice ta sn tc, .slice pa qn pc, .int .i64 tb]) (by simp) 6 _ rfl
        have d7 := HK2.out.c (b := w.heap.size + 1) (T := 40) (vs := #[.int .i64 ka, .int .i64 sb, .int .i64 vb, .int .i64 ra, .int .i64 na, .slice ta sn tc, .slice pa qn pc, .int .i64 tb]) (by simp) 7 _ rfl
        by_cases hlt : m < qn
        · have hlt' : (m : Int) < (qn : Int) := by omega
          have hxl : m < xq.length := by rw [← HQ.out.len]; exact hlt
          have hyl : m < yq.length := by rw [← HP.out.len]; exact hlt
          obtain ⟨b1, o1, a1, m0⟩ := (HQ.out.stay HK2.out.1).at hxl
          obtain ⟨b2, o2, a2, n0⟩ := (HP.out.stay HK2.out.1).at hyl
          have HX := Lib.hid (show xq[m]? = some xq[m] from List.getElem?_eq_getElem hxl)
          have HY := Lib.hid (show yq[m]? = some yq[m] from List.getElem?_eq_getElem hyl)
          generalize xq[m] = r1 at *
          generalize yq[m] = r2 at *
          clear hxl hyl
          subst a1 a2
          go_upto_region 11 with fail
          by_cases g : r1 = r2
          case neg =>
            have g' := beqF g
            have HN := Lib.hid (show ¬ (xs = ys ∧ xq = yq) from fun e => g (by have h1 := HX.out; have h2 := HY.out; rw [e.2, h2] at h1; cases h1; rfl))
            clear g
            go_quiet (fail)
            go_wp2
            go_ret
            exact ⟨false, rfl, ⟨fun h => (by cases h), fun h => absurd h HN.out⟩, (HK2.out.drewN _).1⟩
          have g' := beqT g
          have HN := Lib.hid g
          clear g
          go_quiet (fail)
          go_wp2
          go_roundw
          case rel =>
            refine ⟨m + 1, by omega, by go_num, HK2.out.drewN _, fun j hj => ?_⟩
            by_cases hjk : j = m
            · subst hjk; rw [HX.out, HY.out, HN.out]
            · exact HOK.out j (by omega)
          case measure => simp [intOf]; omega
        · have hlt' : ¬ (m : Int) < (qn : Int) := by omega
          have HQQ := Lib.hid (show xq = yq by
            have l1 := HQ.out.len
            have l2 := HP.out.len
            simp only at l1 l2
            apply List.ext_getElem?
            intro j
            by_cases hj : j < m
            · exact HOK.out j hj
            · rw [List.getElem?_eq_none (by omega), List.getElem?_eq_none (by omega)])
          clear HOK hm hlt
          go_wp2
          go_ret
          exact .inr ⟨rfl, ⟨HSS.out, HQQ.out⟩, HK2.out.1⟩

theorem ldThing_any (x y : T8) (s q t p : Sl) (w : World) (hs : HasR w s x.slots) (hq : HasQ w q x.queue) (ht : HasR w t y.slots) (hp : HasQ w p y.queue) (hz : x.slots.length ≤ 1048576) (hzq : x.queue.length ≤ 1048576) :
    Calls Tryz.prog 28 #[x.val s q, y.val t p] w (LdPost (x = y) w) := by
  obtain ⟨sa, sn, sc⟩ := s
  obtain ⟨qa, qn, qc⟩ := q
  obtain ⟨ta, tn, tc⟩ := t
  obtain ⟨pa, pn, pc⟩ := p
  obtain ⟨ka, sb, vb, ra, na, xs, xq, tb⟩ := x
  obtain ⟨ka', sb', vb', ra', na', ys, yq, tb'⟩ := y
  have l1 : sn = xs.length := hs.len
  have l2 : tn = ys.length := ht.len
  have l3 : qn = xq.length := hq.len
  have l4 : pn = yq.length := hp.len
  simp only at hz hzq
  by_cases g0 : ka = ka'
  case neg => exact (ldThing_no0 ka sb vb ra na tb ka' sb' vb' ra' na' tb' sa ta qa pa sn tn qn pn sc tc qc pc w g0 (beqF g0) (by simpa using g0)).mono fun e w' h => ⟨false, h.1, ⟨fun h => (by cases h), fun e => absurd (by injection e) g0⟩, h.2⟩
  subst g0
  by_cases g1 : sb = sb'
  case neg => exact (ldThing_no1 ka sb vb ra na tb ka sb' vb' ra' na' tb' sa ta qa pa sn tn qn pn sc tc qc pc w g1 (beqF g1) (by simpa using g1)).mono fun e w' h => ⟨false, h.1, ⟨fun h => (by cases h), fun e => absurd (by injection e) g1⟩, h.2⟩
  subst g1
  by_cases g2 : vb = vb'
  case neg => exact (ldThing_no2 ka sb vb ra na tb ka sb vb' ra' na' tb' sa ta qa pa sn tn qn pn sc tc qc pc w g2 (beqF g2) (by simpa using g2)).mono fun e w' h => ⟨false, h.1, ⟨fun h => (by cases h), fun e => absurd (by injection e) g2⟩, h.2⟩
  subst g2
  by_cases g3 : ra = ra'
  case neg => exact (ldThing_no3 ka sb vb ra na tb ka sb vb ra' na' tb' sa ta qa pa sn tn qn pn sc tc qc pc w g3 (beqF g3) (by simpa using g3)).mono fun e w' h => ⟨false, h.1, ⟨fun h => (by cases h), fun e => absurd (by injection e) g3⟩, h.2⟩
  subst g3
  by_cases g4 : na = na'
  case neg => exact (ldThing_no4 ka sb vb ra na tb ka sb vb ra na' tb' sa ta qa pa sn tn qn pn sc tc qc pc w g4 (beqF g4) (by simpa using g4)).mono fun e w' h => ⟨false, h.1, ⟨fun h => (by cases h), fun e => absurd (by injection e) g4⟩, h.2⟩
  subst g4
  by_cases g5 : tb = tb'
  case neg => exact (ldThing_no5 ka sb vb ra na tb ka sb vb ra na tb' sa ta qa pa sn tn qn pn sc tc qc pc w g5 (beqF g5) (by simpa using g5)).mono fun e w' h => ⟨false, h.1, ⟨fun h => (by cases h), fun e => absurd (by injection e) g5⟩, h.2⟩
  subst g5
  by_cases g6 : sn = tn
  case neg => exact (ldThing_no6 ka sb vb ra na tb ka sb vb ra na tb sa ta qa pa sn tn qn pn sc tc qc pc w g6 (by simp; omega) (by simp; omega)).mono fun e w' h => ⟨false, h.1, ⟨fun h => (by cases h), fun e => absurd (by injection e with _ _ _ _ _ e1; rw [l1, l2, e1]) g6⟩, h.2⟩
  subst g6
  by_cases g7 : qn = pn
  case neg => exact (ldThing_no7 ka sb vb ra na tb ka sb vb ra na tb sa ta qa pa sn sn qn pn sc tc qc pc w g7 (by simp; omega) (by simp; omega)).mono fun e w' h => ⟨false, h.1, ⟨fun h => (by cases h), fun e => absurd (by injection e with _ _ _ _ _ _ e1; rw [l3, l4, e1]) g7⟩, h.2⟩
  subst g7
  refine (ldThing_deep ka sb vb ra na tb xs ys xq yq sa ta qa pa sn qn sc tc qc pc w hs hq ht hp (by omega) (by omega)).mono fun e w' h => ?_
  obtain ⟨u, h1, h2, h3⟩ := h
  exact ⟨u, h1, by rw [h2]; simp, h3⟩
end Go.Proofs.YtbopficnajdaoaaGreatDoor

namespace Go.Proofs.YtbopficnajdaoaaGreatDoor
open Go.RowKit
set_option maxRecDepth 100000
set_option linter.unusedVariables false

theorem ldThing_same (x : T8) (s q t p : Sl) (w : World) (hs : HasR w s x.slots) (hq : HasQ w q x.queue) (ht : HasR w t x.slots) (hp : HasQ w p x.queue) (hz : x.slots.length ≤ 1048576) (hzq : x.queue.length ≤ 1048576) :
    Calls Tryz.prog 28 #[x.val s q, x.val t p] w fun e w' => e = .returned (.bool true) ∧ Below w.heap.size w w' :=
  (ldThing_any x x s q t p w hs hq ht hp hz hzq).mono fun e' w' ⟨v, h1, h2, h3⟩ => by
    obtain rfl := h2.2 rfl
    exact ⟨h1, h3⟩
set_option maxRecDepth 100000 in
set_option maxHeartbeats 2000000 in
theorem ldTable_ne (l : List T8) (b o c b2 o2 c2 : Nat) (w : World) (h1 : Tb w b o l) (h2 : Tb w b2 o2 l) (hz : l.length ≤ 1048576) (hzs : ∀ i (h : i < l.length), l[i].slots.length ≤ 1048576 ∧ l[i].queue.length ≤ 1048576) :
    Calls Tryz.prog 23 #[.slice (some ⟨b, o, none⟩) l.length c, .slice (some ⟨b2, o2, none⟩) l.length c2] w fun e w' => e = .returned (.bool true) ∧ Below w.heap.size w w' := by
  have H1 := Lib.hid h1
  have H2 := Lib.hid h2
  have HZ := Lib.hid hzs
  clear h1 h2 hzs
  go_enter Tryz.func23, Tryz.ntmps23
  go_wp2
  go_loopw [5] (fun i wr => ∃ k : Nat, k ≤ l.length ∧ i = .int .i64 k ∧ Below w.heap.size w wr) (fun i _ => l.length - (intOf i).toNat)
  case atStart => exact ⟨0, by omega, rfl, Below.refl _ _⟩
  case round =>
    obtain ⟨k, hk, rfl, B0⟩ := hrel
    have HB := Lib.hid B0
    clear B0
    by_cases hlt : k < l.length
    · have hlt' : (k : Int) < (l.length : Int) := by omega
      obtain ⟨ss, qs, hR, hQ, hA⟩ := (H1.out.stay HB.out) k hlt
      obtain ⟨ss2, qs2, hR2, hQ2, hA2⟩ := (H2.out.stay HB.out) k hlt
      have c0 : wr.cell? ⟨b, o + k * 8, none⟩ = some (.int .i64 (l[k]).kind) := hA 0 _ rfl
      have c1 : wr.cell? ⟨b, o + k * 8 + 1, none⟩ = some (.int .i64 (l[k]).sec) := hA 1 _ rfl
      have c2 : wr.cell? ⟨b, o + k * 8 + 2, none⟩ = some (.int .i64 (l[k]).vou) := hA 2 _ rfl
      have c3 : wr.cell? ⟨b, o + k * 8 + 3, none⟩ = some (.int .i64 (l[k]).vers) := hA 3 _ rfl
      have c4 : wr.cell? ⟨b, o + k * 8 + 4, none⟩ = some (.int .i64 (l[k]).num) := hA 4 _ rfl
      have c5 : wr.cell? ⟨b, o + k * 8 + 5, none⟩ = some (.slice ss.a ss.n ss.c) := hA 5 _ rfl
      have c6 : wr.cell? ⟨b, o + k * 8 + 6, none⟩ = some (.slice qs.a qs.n qs.c) := hA 6 _ rfl
      have c7 : wr.cell? ⟨b, o + k * 8 + 7, none⟩ = some (.int .i64 (l[k]).to) := hA 7 _ rfl
      have d0 : wr.cell? ⟨b2, o2 + k * 8, none⟩ = some (.int .i64 (l[k]).kind) := hA2 0 _ rfl
      have d1 : wr.cell? ⟨b2, o2 + k * 8 + 1, none⟩ = some (.int .i64 (l[k]).sec) := hA2 1 _ rfl
      have d2 : wr.cell? ⟨b2, o2 + k * 8 + 2, none⟩ = some (.int .i64 (l[k]).vou) := hA2 2 _ rfl
      have d3 : wr.cell? ⟨b2, o2 + k * 8 + 3, none⟩ = some (.int .i64 (l[k]).vers) := hA2 3 _ rfl
      have d4 : wr.cell? ⟨b2, o2 + k * 8 + 4, none⟩ = some (.int .i64 (l[k]).num) := hA2 4 _ rfl
      have d5 : wr.cell? ⟨b2, o2 + k * 8 + 5, none⟩ = some (.slice ss2.a ss2.n ss2.c) := hA2 5 _ rfl
      have d6 : wr.cell? ⟨b2, o2 + k * 8 + 6, none⟩ = some (.slice qs2.a qs2.n qs2.c) := hA2 6 _ rfl
      have d7 : wr.cell? ⟨b2, o2 + k * 8 + 7, none⟩ = some (.int .i64 (l[k]).to) := hA2 7 _ rfl
      have HR := Lib.hid hR
      have HQ := Lib.hid hQ
      have HR2 := Lib.hid hR2
      have HQ2 := Lib.hid hQ2
      clear hR hQ hR2 hQ2 hA hA2
      have cc0 := fun zz : Wd (Kn wr []) => stayCell c0 zz.ok.1
      have cc1 := fun zz : Wd (Kn wr []) => stayCell c1 zz.ok.1
      have cc2 := fun zz : Wd (Kn wr []) => stayCell c2 zz.ok.1
      have cc3 := fun zz : Wd (Kn wr []) => stayCell c3 zz.ok.1
      have cc4 := fun zz : Wd (Kn wr []) => stayCell c4 zz.ok.1
      have cc5 := fun zz : Wd (Kn wr []) => stayCell c5 zz.ok.1
      have cc6 := fun zz : Wd (Kn wr []) => stayCell c6 zz.ok.1
      have cc7 := fun zz : Wd (Kn wr []) => stayCell c7 zz.ok.1
      have dd0 := fun zz : Wd (Kn wr []) => stayCell d0 zz.ok.1
      have dd1 := fun zz : Wd (Kn wr []) => stayCell d1 zz.ok.1
      have dd2 := fun zz : Wd (Kn wr []) => stayCell d2 zz.ok.1
      have dd3 := fun zz : Wd (Kn wr []) => stayCell d3 zz.ok.1
      have dd4 := fun zz : Wd (Kn wr []) => stayCell d4 zz.ok.1
      have dd5 := fun zz : Wd (Kn wr []) => stayCell d5 zz.ok.1
      have dd6 := fun zz : Wd (Kn wr []) => stayCell d6 zz.ok.1
      have dd7 := fun zz : Wd (Kn wr []) => stayCell d7 zz.ok.1
      have ne : Nonempty (Wd (Kn wr [])) := ⟨⟨_, (Kn.refl (w := wr)).drew⟩⟩
      have HE := Lib.hid (fun zz : Wd (Kn wr []) => ldThing_same l[k] ss qs ss2 qs2 zz.w (HR.out.stay zz.ok.1) (HQ.out.stay zz.ok.1) (HR2.out.stay zz.ok.1) (HQ2.out.stay zz.ok.1) (HZ.out k hlt).1 (HZ.out k hlt).2)
      clear c0 d0 c1 d1 c2 d2 c3 d3 c4 d4 c5 d5 c6 d6 c7 d7 HR HQ HR2 HQ2
      go_upto_region 6 with fail
      refine wp_region_quiet (C := fun y => ∃ zz : Wd (Kn wr []), y = zz.w) (by kernel_rfl) (by kernel_rfl) ⟨⟨_, (Kn.refl (w := wr)).drew⟩, rfl⟩ ?_
      show wpQuiet _ _ _ _ [_, _, _, _, _, _, _, _, _, _] _
      repeat (first | go_big_quiet_step ((go_at_call 28; with_reducible exact inCls Kn.stay (HE.out _))) | quiet_step ((go_at_call 28; with_reducible exact inCls Kn.stay (HE.out _))))
      refine wpQuiet_nil ?_
      rintro _ ⟨⟨y, K2⟩, rfl⟩
      have HB2 := Lib.hid (HB.out.trans (K2.1.mono HB.out.size))
      clear ne cc0 dd0 cc1 dd1 cc2 dd2 cc3 dd3 cc4 dd4 cc5 dd5 cc6 dd6 cc7 dd7 K2 HE
      go_wp2
      go_roundw
      case rel => exact ⟨k + 1, by omega, by go_num, HB2.out⟩
      case measure => simp [intOf]; omega
    · have hlt' : ¬ (k : Int) < (l.length : Int) := by omega
      go_wp2
      go_ret
      exact ⟨rfl, HB.out⟩
set_option maxHeartbeats 1000000 in
theorem ldTable_nil (a : Option Addr) (c : Nat) (a2 : Option Addr) (c2 : Nat) (w : World) :
    Calls Tryz.prog 23 #[.slice a 0 c, .slice a2 0 c2] w fun e w' => e = .returned (.bool true) ∧ Below w.heap.size w w' := by
  go_enter Tryz.func23, Tryz.ntmps23
  go_wp2
  go_loop [5] (fun i => i = .int .i64 0) (fun _ => 0)
  case atStart => rfl
  case round =>
    subst hrel
    go_wp2
    go_ret
    exact ⟨rfl, Below.refl _ _⟩
theorem ldTable_same (l : List T8) (s s2 : Sl) (w : World) (h : HasT w s l) (h2 : HasT w s2 l) (hz : l.length ≤ 1048576) (hzs : ∀ i (h : i < l.length), l[i].slots.length ≤ 1048576 ∧ l[i].queue.length ≤ 1048576) :
    Calls Tryz.prog 23 #[.slice s.a s.n s.c, .slice s2.a s2.n s2.c] w fun e w' => e = .returned (.bool true) ∧ Below w.heap.size w w' := by
  obtain ⟨a1, a2, a3⟩ := h
  obtain ⟨b1, b2, b3⟩ := h2
  rw [a1, b1]
  by_cases hl : l = []
  · subst hl
    exact ldTable_nil _ _ _ _ w
  · rcases a3 with a3 | ⟨b, o, e, a3⟩
    · exact absurd a3 hl
    rcases b3 with b3 | ⟨b', o', e', b3⟩
    · exact absurd b3 hl
    rw [e, e']
    exact ldTable_ne l b o s.c b' o' s2.c w a3 b3 hz hzs

set_option maxHeartbeats 8000000 in
theorem ldCan_any (l : List T8) (g n c : Nat) (q : C5) (w : World) (ht : HasT w ⟨some ⟨g, 0, none⟩, n, c⟩ l) (hn : l.length = n) (hf : KF w) (hz : n ≤ 1048576) :
    Calls Tryz.prog 24 #[.slice (some ⟨g, 0, none⟩) n c, .agg #[.int .i64 q.k, .int .i64 q.r, .int .i64 q.a, .int .i64 q.b, .int .i64 q.n]] w (LdPost (OkC l q) w) := by
  have HK0 := Lib.hid ((Kn.refl (w := w)).new 25 (C5.cs q))
  have HT := Lib.hid ht
  have HF := Lib.hid hf
  have HN := Lib.hid hn
  have hl : l.length ≤ 1048576 := by omega
  have HL := Lib.hid hl
  clear ht hf hn hl
  obtain ⟨b1, hb1⟩ : ∃ b1, tabOk l = b1 := ⟨_, rfl⟩
  have HB1 := Lib.hid hb1
  clear hb1
  unfold LdPost
  go_enter Tryz.func24, Tryz.ntmps24
  go_wp2_with fail
  refine (implTabOk_val (s := ⟨some ⟨g, 0, none⟩, n, c⟩) HB1.out _ (HT.out.stay HK0.out.1) (HF.out.stay HK0.out.1) HL.out).mono ?_
  rintro e y1 ⟨rfl, hb⟩
  have HK1 := Lib.hid (HK0.out.stay hb)
  clear hb HK0
  cases b1
  · go_wp2
    go_ret
    exact ⟨false, rfl, ⟨fun h => (by cases h), fun h => by have := h.tab; rw [HB1.out] at this; cases this⟩, HK1.out.1⟩
  obtain ⟨b2, hb2⟩ : ∃ b2, q.ok = b2 := ⟨_, rfl⟩
  have HB2 := Lib.hid hb2
  clear hb2
  have c0 := HK1.out.c (b := w.heap.size) (T := 25) (vs := C5.cs q) (by simp) 0 _ rfl
  have c1 := HK1.out.c (b := w.heap.size) (T := 25) (vs := C5.cs q) (by simp) 1 _ rfl
  have c2 := HK1.out.c (b := w.heap.size) (T := 25) (vs := C5.cs q) (by simp) 2 _ rfl
  have c3 := HK1.out.c (b := w.heap.size) (T := 25) (vs := C5.cs q) (by simp) 3 _ rfl
  have c4 := HK1.out.c (b := w.heap.size) (T := 25) (vs := C5.cs q) (by simp) 4 _ rfl
  go_wp2_with fail
  refine (implCallOk_val HB2.out _).mono ?_
  rintro e y2 ⟨rfl, hb⟩
  have HK2 := Lib.hid (HK1.out.stay hb)
  clear hb HK1 c0 c1 c2 c3 c4
  cases b2
  · go_wp2
    go_ret
    exact ⟨false, rfl, ⟨fun h => (by cases h), fun h => by have := h.2; rw [HB2.out] at this; cases this⟩, HK2.out.1⟩
  have c1 := HK2.out.c (b := w.heap.size) (T := 25) (vs := C5.cs q) (by simp) 1 _ rfl
  have hbd := (C5.bd HB2.out).2.1
  by_cases hrl : (n : Int) < q.r
  · have NO := Lib.hid (show ¬ OkC l q from fun h => by
      obtain ⟨jr, hjr, hcr, -⟩ := h.run
      have := HN.out
      omega)
    go_wp2
    go_ret
    exact .inl ⟨rfl, NO.out, HK2.out.1⟩
  obtain ⟨jr, hjr⟩ : ∃ j : Nat, q.r - 1 = j := ⟨(q.r - 1).toNat, by omega⟩
  obtain ⟨ck, cr, ca, cbb, cn⟩ := q
  dsimp only at *
  obtain rfl : cr = (jr : Int) + 1 := by omega
  have hjN : jr < n := by omega
  have hjl : (jr : Int) < (n : Int) := by omega
  have HJ := Lib.hid (show jr < l.length by rw [HN.out]; exact hjN)
  have wj1 : wrap64 ((jr : Int) + 1 - 1) = (jr : Int) := by unfold wrap64; omega
  have d0 : y2.cell? ⟨g, jr * 8, none⟩ = some (.int .i64 (l[jr]'HJ.out).kind) := by
    obtain ⟨b, o, e, h⟩ := (HT.out.stay HK2.out.1).ne HJ.out
    simp only [Option.some.injEq, Addr.mk.injEq] at e
    obtain ⟨rfl, rfl, -⟩ := e
    obtain ⟨ss, qs, -, -, hA⟩ := h jr HJ.out
    have := hA 0 _ rfl
    simpa using this
  obtain ⟨kd, hkd⟩ : ∃ kd, (l[jr]'HJ.out).kind = kd := ⟨_, rfl⟩
  rw [hkd] at d0
  have HKD := Lib.hid hkd
  clear hkd hjr
  have EQ := Lib.hid (show OkC l ⟨ck, (jr : Int) + 1, ca, cbb, cn⟩ ↔ kd = 3 from ⟨fun h => by rw [← HKD.out]; exact (run_at h HJ.out rfl).2, fun h => by
    refine ⟨?_, HB2.out⟩
    have h1 : inR ((jr : Int) + 1) 1 l.length = true := by have := HJ.out; simp [inR]; omega
    rw [HB1.out, Bool.true_and, isRun, h1, thAt_of HJ.out (show (jr : Int) + 1 - 1 = jr by omega), HKD.out, h]; rfl⟩)
  by_cases hk3 : kd = 3
  · subst hk3
    go_wp2
    go_ret
    exact .inr ⟨rfl, EQ.out.2 (by simp), HK2.out.1⟩
  · have hk3' : (kd == 3) = false := by simpa using hk3
    have HK3 := Lib.hid hk3
    clear hk3
    go_wp2
    go_ret
    exact .inl ⟨rfl, fun h => HK3.out (EQ.out.1 h), HK2.out.1⟩
end Go.Proofs.YtbopficnajdaoaaGreatDoor

namespace Go.Proofs.YtbopficnajdaoaaGreatDoor
open Go.RowKit
set_option maxRecDepth 100000
set_option linter.unusedVariables false

abbrev putC (W : World) (b : Nat) (q : C5) : World := ((((W.setCell ⟨b, 0, none⟩ (.int .i64 q.k)).setCell ⟨b, 1, none⟩ (.int .i64 q.r)).setCell ⟨b, 2, none⟩ (.int .i64 q.a)).setCell ⟨b, 3, none⟩ (.int .i64 q.b)).setCell ⟨b, 4, none⟩ (.int .i64 q.n)
theorem put_all {W : World} {b : Nat} (h : Box W b 25 #[.int .i64 0, .int .i64 0, .int .i64 0, .int .i64 0, .int .i64 0]) (q : C5) : Box (putC W b q) b 25 (C5.cs q) := by
  have bF := ((((h.put 0 (.int .i64 q.k)).put 1 (.int .i64 q.r)).put 2 (.int .i64 q.a)).put 3 (.int .i64 q.b)).put 4 (.int .i64 q.n)
  simpa using bF
theorem TaO.row {n0 : Nat} {W : World} {v : Value} {ts : List Tr} {b : Nat} {q : C5} (h : TaO n0 W v ts) (hb : b < n0) : TaO n0 (putC W b q) v ts :=
  h.keep fun b' T' cs hb' bx' _ => by
    have n1 : b' ≠ b := by omega
    exact ((((bx'.other n1 _).other n1 _).other n1 _).other n1 _).other n1 _
theorem ck_fin {n0 : Nat} {w W : World} {g c N b : Nat} {q : C5} {ts : List Tr} (hN : ts.length = N) (h3 : 3 ≤ N) (h8 : N ≤ 8) (hb : w.heap.size ≤ b) (hT : TaO n0 (putC W b q) (.slice (some ⟨g, 0, none⟩) N c) ts) (hw : Below w.heap.size w W) : CkPost w (.returned (.tuple #[.slice (some ⟨g, 0, none⟩) N c, .agg #[.int .i64 q.k, .int .i64 q.r, .int .i64 q.a, .int .i64 q.b, .int .i64 q.n]])) (putC W b q) := by
  have h := TaO.hasT (s := ⟨some ⟨g, 0, none⟩, N, c⟩) hT
  refine ⟨g, c, ts.map (·.1), q, by simp [hN], ?_, by simp [hN]; omega, by simp [hN]; omega, hT.sizes, ?_⟩
  · simp only [List.length_map, hN]; exact h
  · exact ((((hw.setCell (p := ⟨b, 0, none⟩) hb _).setCell (p := ⟨b, 1, none⟩) hb _).setCell (p := ⟨b, 2, none⟩) hb _).setCell (p := ⟨b, 3, none⟩) hb _).setCell (p := ⟨b, 4, none⟩) hb _
theorem CkPost.drew {w V : World} {e : Ending} (h : CkPost w e V) : CkPost w e V.drew := by
  obtain ⟨g, c, l, q, h1, h2, h3, h4, h5, h6⟩ := h
  exact ⟨g, c, l, q, h1, h2.stay ((Below.refl _ _).drew), h3, h4, h5, h6.drew⟩
set_option maxHeartbeats 8000000 in
theorem drawCD_any (a : Option Addr) (len cap : Nat) (zs : List Int) (w : World) (h : IsRow .u8 w a len cap zs) :
    Calls Tryz.prog 20 #[.slice a len cap] w (CkPost w) := by
  have K0 := (Kn.refl (w := w)).new 25 #[.int .i64 0, .int .i64 0, .int .i64 0, .int .i64 0, .int .i64 0]
  have H := Lib.hid (h.below K0.1)
  have HK := Lib.hid K0
  clear h K0
  go_enter Tryz.func20, Tryz.ntmps20
  go_wp2_with fail
  refine (l6Open_any a len cap zs _ H.out).mono ?_
  rintro e w1' ⟨rfl, rfl⟩
  have hR0 := rd_open H.out
  obtain ⟨w1, hw1⟩ : ∃ w1, (w.alloc (.cells #[.int .i64 0, .int .i64 0, .int .i64 0, .int .i64 0, .int .i64 0] 25)).alloc (.cells #[.slice a (min len 2000) cap, .int .i64 0] 79) = w1 := ⟨_, rfl⟩
  have hs1 : (w.alloc (.cells #[.int .i64 0, .int .i64 0, .int .i64 0, .int .i64 0, .int .i64 0] 25)).heap.size = w.heap.size + 1 := by simp
  rw [hs1, hw1] at hR0
  have hz1 : w1.heap.size = w.heap.size + 2 := by rw [← hw1]; simp
  have hb1 := (HK.out.past (.cells #[.slice a (min len 2000) cap, .int .i64 0] 79))
  rw [hw1] at hb1
  have HB1 := Lib.hid hb1.1
  have BR0 := Lib.hid (hb1.box (b := w.heap.size) (T := 25) (vs := #[.int .i64 0, .int .i64 0, .int .i64 0, .int .i64 0, .int .i64 0]) (by simp))
  have S0 := Lib.hid (St.start hR0)
  clear hR0 hb1
  go_wp2_with fail
  refine (l71Fine_any _ a _ cap zs 0 _ S0.out.2.1 (by omega)).mono ?_
  rintro e y ⟨g, c, ts, rfl, tO, t3, t8, p1, hp1, r1, g1⟩
  have S1 := Lib.hid (S0.out.on g1 r1)
  have T1 := Lib.hid tO
  clear tO r1 g1 S0
  obtain ⟨N, hN⟩ : ∃ N, ts.length = N := ⟨_, rfl⟩
  rw [hN] at T1 t3 t8 ⊢
  have HN := Lib.hid hN
  clear hN
  go_wp2_with fail
  refine (l71Call_any _ a _ cap zs p1 _ S1.out.2.1 (by omega) w1.heap.size g c N ts T1.out (by omega) S1.out.1.1.size HN.out t3 t8).mono ?_
  rintro e y2 ⟨q, rfl, p2, hp2, r2, g2⟩
  have S2 := Lib.hid (S1.out.on g2 r2)
  have T2 := Lib.hid (T1.out.grew (by omega) g2)
  clear r2 g2 S1 T1
  have BRR := Lib.hid (BR0.out.grew S2.out.1.1 (by omega))
  obtain ⟨W6, hW6⟩ : ∃ W6, y2.alloc (.cells (C5.cs q) 25) = W6 := ⟨_, rfl⟩
  have s6 := S2.out.new 25 (C5.cs q)
  have t6 := T2.out.stay ((Below.refl _ _).alloc (Nat.le_refl _) (.cells (C5.cs q) 25))
  rw [hW6] at s6 t6
  have hx5 : w1.heap.size ≤ y2.heap.size := S2.out.1.1.size
  obtain ⟨cb, hcb⟩ : ∃ cb, y2.heap.size = cb := ⟨_, rfl⟩
  rw [hcb] at s6 hx5
  have S6 := Lib.hid s6
  have T6 := Lib.hid t6
  clear s6 t6 S2 T2 BRR
  go_wp2
  go_loopw [7] (fun i wr => ∃ (k p' : Nat) (q : C5), i = .int .i64 k ∧ k ≤ 4 ∧ p' ≤ 30000 + 110 * k ∧ St w1 (w.heap.size + 1) a (min len 2000) cap zs p' [(cb, 25, C5.cs q)] wr ∧ TaO w1.heap.size wr (.slice (some ⟨g, 0, none⟩) N c) ts) (fun i _ => 4 - (intOf i).toNat)
  case atStart => exact ⟨0, p2, q, rfl, by omega, by omega, S6.out, T6.out⟩
  case round =>
    clear S6 T6 hW6 hp2
    obtain ⟨k, pk, q, rfl, hk, hpk, sK, tK⟩ := hrel
    have SK := Lib.hid sK
    have TK := Lib.hid tK
    clear sK tK
    by_cases hlt : ¬ k < 4
    · have hlt' : ¬ (k : Int) < 4 := by omega
      have LB := SK.out.1.box (b := cb) (T := 25) (vs := C5.cs q) (by simp)
      have k0 := LB.cell 0 _ rfl
      have k1 := LB.cell 1 _ rfl
      have k2 := LB.cell 2 _ rfl
      have k3 := LB.cell 3 _ rfl
      have k4 := LB.cell 4 _ rfl
      have RB := BR0.out.grew SK.out.1.1 (by omega)
      have j0 := RB.cell 0 _ rfl
      have j1 := RB.cell 1 _ rfl
      have j2 := RB.cell 2 _ rfl
      have j3 := RB.cell 3 _ rfl
      have j4 := RB.cell 4 _ rfl
      have f0 := RB.thaw 0
      have f1 := RB.thaw 1
      have f2 := RB.thaw 2
      have f3 := RB.thaw 3
      have f4 := RB.thaw 4
      have RBH := Lib.hid RB
      clear LB RB
      go_wp2_with fail
      go_region
      all_goals
        go_wp2
        refine bodyPost_ret (results_tmp_rowC Tryz.results20 _ _ w.heap.size 25 (C5.cs q) _ rfl (put_all RBH.out q).drew Tryz.underlying25 rfl infoC) rfl ?_
        exact (ck_fin (g := g) (c := c) HN.out t3 t8 (by omega) (TaO.row TK.out (by omega)) (HB1.out.trans (SK.out.1.1.below (by omega) (by omega)))).drew
    have hlt' : (k : Int) < 4 := by omega
    go_wp2_with fail
    refine (pick_any _ a _ cap zs pk 4 _ SK.out.2.1 (by omega) (by decide) (by decide)).mono ?_
    rintro e w4 ⟨m1, m1a, m1b, rfl, rr, gg, -⟩
    have SA := Lib.hid (SK.out.on gg rr)
    have TA := Lib.hid (TK.out.grew (by omega) gg)
    clear rr gg SK TK
    by_cases hm : ¬ 0 < m1
    · have LB := SA.out.1.box (b := cb) (T := 25) (vs := C5.cs q) (by simp)
      have k0 := LB.cell 0 _ rfl
      have k1 := LB.cell 1 _ rfl
      have k2 := LB.cell 2 _ rfl
      have k3 := LB.cell 3 _ rfl
      have k4 := LB.cell 4 _ rfl
      have RB := BR0.out.grew SA.out.1.1 (by omega)
      have j0 := RB.cell 0 _ rfl
      have j1 := RB.cell 1 _ rfl
      have j2 := RB.cell 2 _ rfl
      have j3 := RB.cell 3 _ rfl
      have j4 := RB.cell 4 _ rfl
      have f0 := RB.thaw 0
      have f1 := RB.thaw 1
      have f2 := RB.thaw 2
      have f3 := RB.thaw 3
      have f4 := RB.thaw 4
      have RBH := Lib.hid RB
      clear LB RB
      go_wp2_with fail
      go_region
      all_goals
        go_wp2
        refine bodyPost_ret (results_tmp_rowC Tryz.results20 _ _ w.heap.size 25 (C5.cs q) _ rfl (put_all RBH.out q).drew Tryz.underlying25 rfl infoC) rfl ?_
        exact (ck_fin (g := g) (c := c) HN.out t3 t8 (by omega) (TaO.row TA.out (by omega)) (HB1.out.trans (SA.out.1.1.below (by omega) (by omega)))).drew
    have hm' : 0 < m1 := by omega
    clear hm
    have c0 := SA.out.1.c (b := cb) (T := 25) (vs := C5.cs q) (by simp) 0 _ rfl
    have c1 := SA.out.1.c (b := cb) (T := 25) (vs := C5.cs q) (by simp) 1 _ rfl
    have c2 := SA.out.1.c (b := cb) (T := 25) (vs := C5.cs q) (by simp) 2 _ rfl
    have c3 := SA.out.1.c (b := cb) (T := 25) (vs := C5.cs q) (by simp) 3 _ rfl
    have c4 := SA.out.1.c (b := cb) (T := 25) (vs := C5.cs q) (by simp) 4 _ rfl
    obtain ⟨v, hv⟩ : ∃ v, chkV (ts.map (fun t : Tr => t.1)) q = v := ⟨_, rfl⟩
    have HV := Lib.hid hv
    clear hv
    have HCHK := Lib.hid (fun (y : World) (ht : TaO w1.heap.size y (.slice (some ⟨g, 0, none⟩) N c) ts) => by
      have h := specCheck_val (s := ⟨some ⟨g, 0, none⟩, N, c⟩) HV.out y (TaO.hasT (s := ⟨some ⟨g, 0, none⟩, N, c⟩) ht) (by simp [HN.out]; omega) ht.sizes
      exact h)
    go_wp2_with fail
    refine (HCHK.out _ TA.out).mono ?_
    rintro e y5 ⟨rfl, hb⟩
    have SB := Lib.hid (SA.out.stay hb)
    have TB := Lib.hid (TA.out.stay hb)
    clear hb SA TA c0 c1 c2 c3 c4
    by_cases hneg : ¬ v < 0
    · have LB := SB.out.1.box (b := cb) (T := 25) (vs := C5.cs q) (by simp)
      have k0 := LB.cell 0 _ rfl
      have k1 := LB.cell 1 _ rfl
      have k2 := LB.cell 2 _ rfl
      have k3 := LB.cell 3 _ rfl
      have k4 := LB.cell 4 _ rfl
      have RB := BR0.out.grew SB.out.1.1 (by omega)
      have j0 := RB.cell 0 _ rfl
      have j1 := RB.cell 1 _ rfl
      have j2 := RB.cell 2 _ rfl
      have j3 := RB.cell 3 _ rfl
      have j4 := RB.cell 4 _ rfl
      have f0 := RB.thaw 0
      have f1 := RB.thaw 1
      have f2 := RB.thaw 2
      have f3 := RB.thaw 3
      have f4 := RB.thaw 4
      have RBH := Lib.hid RB
      clear LB RB
      go_wp2_with fail
      go_region
      all_goals
        go_wp2
        refine bodyPost_ret (results_tmp_rowC Tryz.results20 _ _ w.heap.size 25 (C5.cs q) _ rfl (put_all RBH.out q).drew Tryz.underlying25 rfl infoC) rfl ?_
        exact (ck_fin (g := g) (c := c) HN.out t3 t8 (by omega) (TaO.row TB.out (by omega)) (HB1.out.trans (SB.out.1.1.below (by omega) (by omega)))).drew
    have hneg' : v < 0 := by omega
    clear hneg
    go_wp2_with fail
    refine (l71Call_any _ a _ cap zs (pk + 1) _ SB.out.2.1 (by omega) w1.heap.size g c N ts TB.out (by omega) SB.out.1.1.size HN.out t3 t8).mono ?_
    rintro e y6 ⟨q2, rfl, p3, hp3, r2, g2⟩
    have SC := Lib.hid (SB.out.on g2 r2)
    have TC := Lib.hid (TB.out.grew (by omega) g2)
    clear r2 g2 SB TB
    have bR := SC.out.1.box (b := cb) (T := 25) (vs := C5.cs q) (by simp)
    have k0 := bR.cell 0 _ rfl
    have k1 := bR.cell 1 _ rfl
    have k2 := bR.cell 2 _ rfl
    have k3 := bR.cell 3 _ rfl
    have k4 := bR.cell 4 _ rfl
    have f0 := bR.thaw 0
    have f1 := bR.thaw 1
    have f2 := bR.thaw 2
    have f3 := bR.thaw 3
    have f4 := bR.thaw 4
    have SD := Lib.hid (show St w1 (w.heap.size + 1) a (min len 2000) cap zs p3 [(cb, 25, C5.cs q2)] (((((y6.setCell ⟨cb, 0, none⟩ (.int .i64 q2.k)).setCell ⟨cb, 1, none⟩ (.int .i64 q2.r)).setCell ⟨cb, 2, none⟩ (.int .i64 q2.a)).setCell ⟨cb, 3, none⟩ (.int .i64 q2.b)).setCell ⟨cb, 4, none⟩ (.int .i64 q2.n)) by
      have := ((((SC.out.put (by simp) 0 (.int .i64 q2.k)).put (by simp) 1 (.int .i64 q2.r)).put (by simp) 2 (.int .i64 q2.a)).put (by simp) 3 (.int .i64 q2.b)).put (by simp) 4 (.int .i64 q2.n)
      simpa using this)
    have TD := Lib.hid (show TaO w1.heap.size (((((y6.setCell ⟨cb, 0, none⟩ (.int .i64 q2.k)).setCell ⟨cb, 1, none⟩ (.int .i64 q2.r)).setCell ⟨cb, 2, none⟩ (.int .i64 q2.a)).setCell ⟨cb, 3, none⟩ (.int .i64 q2.b)).setCell ⟨cb, 4, none⟩ (.int .i64 q2.n)) (.slice (some ⟨g, 0, none⟩) N c) ts from
      ((((TC.out.call bR _).call (bR.put 0 (.int .i64 q2.k)) _).call ((bR.put 0 (.int .i64 q2.k)).put 1 (.int .i64 q2.r)) _).call (((bR.put 0 (.int .i64 q2.k)).put 1 (.int .i64 q2.r)).put 2 (.int .i64 q2.a)) _).call ((((bR.put 0 (.int .i64 q2.k)).put 1 (.int .i64 q2.r)).put 2 (.int .i64 q2.a)).put 3 (.int .i64 q2.b)) _)
    clear bR SC TC
    go_wp2
    go_roundw
    case rel => exact ⟨k + 1, p3, q2, by go_num, by omega, by omega, SD.out, TD.out⟩
    case measure => simp [intOf]; omega
end Go.Proofs.YtbopficnajdaoaaGreatDoor

namespace Go.Proofs.YtbopficnajdaoaaGreatDoor
open Go.RowKit
set_option maxRecDepth 100000
set_option linter.unusedVariables false

theorem call_sm {l : List T8} {c : C5} {x : List T8} {a : Int} (h : callV l c = (x, a)) : x.length ≤ 1048576 ∧ ∀ i (hi : i < x.length), x[i].slots.length ≤ 1048576 ∧ x[i].queue.length ≤ 1048576 := by
  by_cases ho : OkC l c
  · rw [callV_ok ho] at h
    have ht := do_tab ho
    have e : (doV l c).1 = x := by rw [h]
    rw [e] at ht
    have := tab_small ht
    exact ⟨by omega, fun i hi => by have := this.2 i hi; omega⟩
  · rw [callV_no ho] at h
    simp only [Prod.mk.injEq] at h
    obtain ⟨rfl, -⟩ := h
    exact ⟨by simp, fun i hi => by simp at hi⟩
/-- Where things lie. -/
theorem HasT.cells {W : World} {g n c : Nat} {l : List T8} (h : HasT W ⟨some ⟨g, 0, none⟩, n, c⟩ l) {i : Nat} (hi : i < l.length) : ∃ ss qs, HasR W ss l[i].slots ∧ HasQ W qs l[i].queue ∧ At W g (i * 8) (l[i].cs ss qs) := by
  obtain ⟨b, o, e, h⟩ := h.ne hi
  simp only [Option.some.injEq, Addr.mk.injEq] at e
  obtain ⟨rfl, rfl, -⟩ := e
  obtain ⟨ss, qs, hS, hQ, hA⟩ := h i hi
  exact ⟨ss, qs, hS, hQ, by simpa using hA⟩
/-- Where a right of a thing lies. -/
theorem slot_get {W : World} {g n c : Nat} {m : List T8} {j k : Nat} (h : HasT W ⟨some ⟨g, 0, none⟩, n, c⟩ m) (hj : j < m.length) (h4 : m[j].slots.length = 4) (hk : k < 4) :
    ∃ rb ro sc, W.cell? ⟨g, j * 8 + 5, none⟩ = some (.slice (some ⟨rb, ro, none⟩) 4 sc) ∧ At W rb (ro + k * 5) (m[j].slots[k]'(by omega)).cs := by
  obtain ⟨ss, qs, hR, -, hA⟩ := h.cells hj
  obtain ⟨rb, ro, e, hB⟩ := hR.at (i := k) (by omega)
  have hn : ss.n = 4 := by rw [hR.len, h4]
  have h5 : W.cell? ⟨g, j * 8 + 5, none⟩ = some (.slice ss.a ss.n ss.c) := hA 5 _ rfl
  rw [e, hn] at h5
  exact ⟨rb, ro, ss.c, h5, hB⟩
/-- The thing that a call is to, where it is not refused. -/
theorem obj_get {l : List T8} {q : C5} {jr : Nat} (h : OkC l q) (h0 : chkV l q = 0) (h3 : q.k ≠ 3) (hj : jr < l.length) (hr : q.r = (jr : Int) + 1) : ∃ jo : Nat, jo < l.length ∧ (rOf l q).t = (jo : Int) + 1 ∧ jo ≠ jr := by
  obtain ⟨jo, hjo, e, -, -⟩ := obj_of h0 h3
  exact ⟨jo, hjo, e, (jo_ne h h0 h3 hj hr hjo e).2.2⟩
theorem get_set_sm {m : List T8} (h : ∀ i (hi : i < m.length), m[i].slots.length ≤ 1048576 ∧ m[i].queue.length ≤ 1048576) {j : Nat} (hj : j < m.length) {y : T8} (e : m[j] = y) : y.slots.length ≤ 1048576 ∧ y.queue.length ≤ 1048576 := by
  subst e; exact h j hj
/-- Where nothing was let through, all but the runner is as it was. -/
theorem do_still {l : List T8} {c : C5} (h : OkC l c) {i : Nat} (hi : i < l.length) (hne : (i : Int) + 1 ≠ c.r) (h0 : chkV l c ≠ 0) : (doV l c).1[i]'(by rw [do_len]; exact hi) = l[i] := by
  have := do_step h i hi
  generalize (doV l c).1[i]'(by rw [do_len]; exact hi) = y at this ⊢
  cases this with
  | same _ => rfl
  | run S e _ _ => exact absurd e hne
  | write _ h' _ _ => exact absurd h' h0
  | store _ h' _ _ => exact absurd h' h0
  | send _ h' _ _ _ => exact absurd h' h0
  | take q qs _ h' _ _ _ => exact absurd h' h0
  | renew _ h' _ _ _ => exact absurd h' h0
  | gate _ h' _ _ => exact absurd h' h0
  | page h' _ _ _ _ => exact absurd h' h0
/-- A call that fetches or stores is to a node. -/
theorem node_of {l : List T8} {q : C5} {jo : Nat} (h : OkC l q) (h0 : chkV l q = 0) (hk : q.k = 4 ∨ q.k = 5) (hj : jo < l.length) (ho : (rOf l q).t = (jo : Int) + 1) : l[jo].slots.length = 4 := by
  have h1 := obj_ok h h0 (by omega)
  rw [thAt_of hj (by omega)] at h1
  have h2 := kind_of h1.2
  have h3 : l[jo].kind = 2 := by rcases hk with hk | hk <;> simpa [kindsOf, hk] using h2
  exact node_slots h1.1 (.inl h3)
theorem run4 {l : List T8} {q : C5} {jr : Nat} (h : OkC l q) (hj : jr < l.length) (hr : q.r = (jr : Int) + 1) : l[jr].slots.length = 4 := node_slots (tab_okT h.tab hj) (.inr (run_at h hj hr).2)
theorem lessR_w (r : R5) : (lessR r true false false).w = false := by simp [lessR]
end Go.Proofs.YtbopficnajdaoaaGreatDoor

namespace Go.Proofs.YtbopficnajdaoaaGreatDoor
open Go.RowKit
set_option maxRecDepth 100000
set_option linter.unusedVariables false

end Go.Proofs.YtbopficnajdaoaaGreatDoor

namespace Go.Proofs.YtbopficnajdaoaaGreatDoor
open Go.ChangeShapes Go.WideShapes Go.RowKit
set_option linter.unusedVariables false

theorem etName : Tryz.prog.globalNamed "errors.errorType" = some 0 := by kernel_rfl
theorem rtRow : (Tryz.prog.cutTypes.find? (·.1 == "internal/reflectlite.rtype")).map (·.2) = some 127 := by kernel_rfl
theorem errRow : ((List.range Tryz.prog.types.size).filter fun t => Tryz.prog.rowNamed t [101, 114, 114, 111, 114]) = [62] := by kernel_rfl
theorem et_of {W : World} (h : handlesMet Tryz.prog [("errors.errorType", Rows.laid_errors_errorType)] W) : ET W := by
  obtain ⟨name, u, ty, e1, e2, e3, e4, e5⟩ := h _ (List.mem_singleton.2 rfl)
  have en : name = [101, 114, 114, 111, 114] := (Option.some.inj e1).symm
  subst en
  obtain rfl := Option.some.inj (rtRow.symm.trans e2)
  have hm : ty ∈ (List.range Tryz.prog.types.size).filter fun t => Tryz.prog.rowNamed t [101, 114, 114, 111, 114] := List.mem_filter.2 ⟨List.mem_range.2 e3, e4⟩
  rw [errRow] at hm
  obtain rfl := List.mem_singleton.1 hm
  have hh : typeHandle Tryz.prog 62 = hnd 62 := by kernel_rfl
  rw [hh] at e5
  have := World.var?_cell etName e5 0
  unfold ET
  simpa using this
end Go.Proofs.YtbopficnajdaoaaGreatDoor

namespace Go.Proofs.YtbopficnajdaoaaGreatDoor
open Go.RowKit Go.ChangeShapes
set_option linter.unusedVariables false
set_option maxRecDepth 100000
section
variable {H : Type} {enc : TypeId × Value → H} {w : World} {base : Nat} {sp : Nat → Bool} {held : Bool}
theorem str_of_trod {fuel : Nat} {cs : List Value} {bs : List UInt8} {p : List MemPlace} (h : DataW.trod enc Tryz.prog w base sp held fuel 9 cs = some (.lit (.string bs), p)) : cs = [.string ⟨bs.toArray⟩] := by
  cases fuel with
  | zero => simp [DataW.trod] at h
  | succ fuel =>
    simp only [DataW.trod, Tryz.underlying9] at h
    split at h <;> simp_all
    obtain ⟨-, h1, -⟩ := h
    subst h1
    simp
theorem int_of_trod {fuel : Nat} {cs : List Value} {n : Int} {p : List MemPlace} (h : DataW.trod enc Tryz.prog w base sp held fuel 3 cs = some (.lit (.int .i64 n), p)) : cs = [.int .i64 n] := by
  obtain ⟨z, hc, hz, -⟩ := DataW.trod_int Tryz.underlying3 h
  simp at hz
  rw [hz.1]
  exact hc
theorem cellsI : Tryz.prog.cellsOf 3 = 1 := by kernel_rfl
theorem cellsSt : Tryz.prog.cellsOf 9 = 1 := by kernel_rfl
theorem cellsSp : Tryz.prog.cellsOf 68 = 2 := by kernel_rfl
theorem cellsF : Tryz.prog.cellsOf 70 = 11 := by kernel_rfl
theorem cellsA : Tryz.prog.cellsOf 116 = 66 := by kernel_rfl
theorem span_of_trod {fuel : Nat} {cs : List Value} {a b : Int} {p : List MemPlace} (h : DataW.trod enc Tryz.prog w base sp held fuel 68 cs = some (.agg [.lit (.int .i64 a), .lit (.int .i64 b)], p)) : cs = [.int .i64 a, .int .i64 b] := by
  cases fuel with
  | zero => simp [DataW.trod] at h
  | succ fuel =>
    simp only [DataW.trod, Tryz.underlying68, cellsSp] at h
    split at h
    · rename_i hl
      obtain ⟨xs, hm, hx⟩ := Option.map_eq_some_iff.1 h
      simp only [List.mapM_cons, List.mapM_nil, cellsI, Option.bind_eq_bind, Option.bind_eq_some_iff, Option.pure_def, Option.some.injEq] at hm
      obtain ⟨y0, h0, ys, ⟨y1, h1, zs, rfl, rfl⟩, rfl⟩ := hm
      simp only [List.map_cons, List.map_nil, Prod.mk.injEq, DataW.agg.injEq, List.cons.injEq, and_true] at hx
      obtain ⟨⟨e0, e1⟩, -⟩ := hx
      obtain ⟨d0, q0⟩ := y0
      obtain ⟨d1, q1⟩ := y1
      simp only at e0 e1
      subst e0 e1
      match cs, hl with
      | [c0, c1], _ =>
        have i0 := int_of_trod h0
        have i1 := int_of_trod h1
        simp at i0 i1
        rw [i0, i1]
    · cases h
theorem row_of_trod {fuel : Nat} {cs : List Value} {nm : List UInt8} {a0 a1 b0 b1 c0 c1 d0 d1 e0 e1 : Int} {p : List MemPlace}
    (h : DataW.trod enc Tryz.prog w base sp held fuel 70 cs = some (.agg [.lit (.string nm), .agg [.lit (.int .i64 a0), .lit (.int .i64 a1)], .agg [.lit (.int .i64 b0), .lit (.int .i64 b1)], .agg [.lit (.int .i64 c0), .lit (.int .i64 c1)], .agg [.lit (.int .i64 d0), .lit (.int .i64 d1)], .agg [.lit (.int .i64 e0), .lit (.int .i64 e1)]], p)) :
    cs = [.string ⟨nm.toArray⟩, .int .i64 a0, .int .i64 a1, .int .i64 b0, .int .i64 b1, .int .i64 c0, .int .i64 c1, .int .i64 d0, .int .i64 d1, .int .i64 e0, .int .i64 e1] := by
  cases fuel with
  | zero => simp [DataW.trod] at h
  | succ fuel =>
    simp only [DataW.trod, Tryz.underlying70, cellsF] at h
    split at h
    · rename_i hl
      obtain ⟨xs, hm, hx⟩ := Option.map_eq_some_iff.1 h
      simp only [List.mapM_cons, List.mapM_nil, cellsSt, cellsSp, Option.bind_eq_bind, Option.bind_eq_some_iff, Option.pure_def, Option.some.injEq] at hm
      obtain ⟨y0, h0, _, ⟨y1, h1, _, ⟨y2, h2, _, ⟨y3, h3, _, ⟨y4, h4, _, ⟨y5, h5, _, rfl, rfl⟩, rfl⟩, rfl⟩, rfl⟩, rfl⟩, rfl⟩ := hm
      simp only [List.map_cons, List.map_nil, Prod.mk.injEq, DataW.agg.injEq, List.cons.injEq, and_true] at hx
      obtain ⟨⟨f0, f1, f2, f3, f4, f5⟩, -⟩ := hx
      obtain ⟨g0, q0⟩ := y0
      obtain ⟨g1, q1⟩ := y1
      obtain ⟨g2, q2⟩ := y2
      obtain ⟨g3, q3⟩ := y3
      obtain ⟨g4, q4⟩ := y4
      obtain ⟨g5, q5⟩ := y5
      simp only at f0 f1 f2 f3 f4 f5
      subst f0 f1 f2 f3 f4 f5
      match cs, hl with
      | [x0, x1, x2, x3, x4, x5, x6, x7, x8, x9, x10], _ =>
        have i0 := str_of_trod h0
        have i1 := span_of_trod h1
        have i2 := span_of_trod h2
        have i3 := span_of_trod h3
        have i4 := span_of_trod h4
        have i5 := span_of_trod h5
        simp at i0 i1 i2 i3 i4 i5
        simp [i0, i1, i2, i3, i4, i5]
    · cases h
end
theorem gK : Tryz.prog.globalNamed "loop.example/drawbar/impl.kindFields" = some 1 := by kernel_rfl
theorem gKType : (Tryz.prog.globals[(1 : Nat)]?).map (·.type) = some 116 := by kernel_rfl

set_option maxRecDepth 100000 in
/-- What lies in the table's place. -/
theorem kf_of {W : World} {rest : List (String × DataW Unit)} (h : laidMet Tryz.prog (("loop.example/drawbar/impl.kindFields", Rows.laid_loop_example_drawbar_impl_kindFields) :: rest) W) : KF W := by
  obtain ⟨ps, ⟨g, t, cs, fuel, p, q, hg, ht, hvar, hd, -, -⟩, -⟩ := h
  obtain rfl := Option.some.inj (gK.symm.trans hg)
  obtain rfl := Option.some.inj (gKType.symm.trans ht)
  cases fuel with
  | zero => simp [DataW.trod] at hd
  | succ fuel =>
    simp only [DataW.trod, Tryz.underlying116, cellsA, cellsF] at hd
    split at hd
    · rename_i hl
      obtain ⟨xs, hm, hx⟩ := Option.map_eq_some_iff.1 hd
      have hrow : ∀ k : Nat, k < 6 → ∀ j v, (rowOf k).cs[j]? = some v → cs.toList[k * 11 + j]? = some v := by
        rw [show List.range 6 = [0, 1, 2, 3, 4, 5] by rfl] at hm
        simp only [List.mapM_cons, List.mapM_nil, Option.bind_eq_bind, Option.bind_eq_some_iff, Option.pure_def, Option.some.injEq] at hm
        obtain ⟨y0, h0, _, ⟨y1, h1, _, ⟨y2, h2, _, ⟨y3, h3, _, ⟨y4, h4, _, ⟨y5, h5, _, rfl, rfl⟩, rfl⟩, rfl⟩, rfl⟩, rfl⟩, rfl⟩ := hm
        simp only [List.map_cons, List.map_nil, Prod.mk.injEq, DataW.agg.injEq, List.cons.injEq, and_true, Rows.laid_loop_example_drawbar_impl_kindFields] at hx
        obtain ⟨⟨f0, f1, f2, f3, f4, f5⟩, -⟩ := hx
        obtain ⟨g0, q0⟩ := y0
        obtain ⟨g1, q1⟩ := y1
        obtain ⟨g2, q2⟩ := y2
        obtain ⟨g3, q3⟩ := y3
        obtain ⟨g4, q4⟩ := y4
        obtain ⟨g5, q5⟩ := y5
        simp only at f0 f1 f2 f3 f4 f5
        subst f0 f1 f2 f3 f4 f5
        have r0 := row_of_trod h0
        have r1 := row_of_trod h1
        have r2 := row_of_trod h2
        have r3 := row_of_trod h3
        have r4 := row_of_trod h4
        have r5 := row_of_trod h5
        clear h0 h1 h2 h3 h4 h5
        have key : ∀ (k : Nat) (r : List Value), (cs.toList.drop (k * 11)).take 11 = r → ∀ j v, j < 11 → r[j]? = some v → cs.toList[k * 11 + j]? = some v := by
          intro k r hr j v hj hv
          rw [← hr] at hv
          simpa [List.getElem?_take, List.getElem?_drop, hj] using hv
        intro k hk j v hv
        have hj : j < 11 := by
          have := (Array.getElem?_eq_some_iff.1 hv).1
          simpa using this
        match k, hk with
        | 0, _ => exact key 0 _ r0 j v hj (by simpa [rowOf] using hv)
        | 1, _ => exact key 1 _ r1 j v hj (by simpa [rowOf] using hv)
        | 2, _ => exact key 2 _ r2 j v hj (by simpa [rowOf] using hv)
        | 3, _ => exact key 3 _ r3 j v hj (by simpa [rowOf] using hv)
        | 4, _ => exact key 4 _ r4 j v hj (by simpa [rowOf] using hv)
        | 5, _ => exact key 5 _ r5 j v hj (by simpa [rowOf] using hv)
      intro k hk j v hv
      have h1 := hrow k hk j v hv
      have h2 := World.var?_cell gK hvar (k * 11 + j)
      rw [h2]
      simpa using h1
    · cases hd
end Go.Proofs.YtbopficnajdaoaaGreatDoor

namespace Go.Proofs.YtbopficnajdaoaaGreatDoor
open Go.RowKit
set_option linter.unusedVariables false

theorem flow_self {s v : Int} (h : okL s v = true) : flow s v s v = true := by
  rw [flow_ok h h]; simp [sub2]
theorem sees_self {l : List T8} (hT : tabOk l = true) {i j : Nat} (hi : i < l.length) (hj : j < l.length) (e1 : l[j].sec = l[i].sec) (e2 : l[j].vou = l[i].vou) : seesT l[i] l[j] = true ∧ touT l[i] l[j] = true := by
  have h := okT_lab (tab_okT hT hi)
  constructor
  · unfold seesT; rw [e1, e2]; exact flow_self h
  · unfold touT; rw [e1, e2]; exact flow_self h
/-- What is told of a call through a right, if all is well. -/
theorem chk_well {l : List T8} {c : C5} (h : OkC l c) (h3 : c.k ≠ 3) (ht : (rOf l c).t ≠ 0) (hk : kindOk c.k (thAt l (rOf l c).t).kind = true) (hr : needR c.k = true → (rOf l c).r = true) (hw : needW c.k = true → (rOf l c).w = true)
    (hs : needR c.k = true → seesT (thAt l c.r) (thAt l (rOf l c).t) = true) (hw2 : needW c.k = true → touT (thAt l c.r) (thAt l (rOf l c).t) = true) (hl : liveB l (rOf l c) = true) : chkV l c = 0 := by
  rw [chkV_go h.1 h.2, if_neg h3]
  change useV l (thAt l c.r) (rOf l c) c.k = 0
  unfold useV
  rw [if_neg, if_neg, if_neg]
  · simp [hl]
  · simp only [Bool.or_eq_true, Bool.and_eq_true, Bool.not_eq_true', not_or, not_and]
    exact ⟨fun a => by rw [hs a]; simp, fun a => by rw [hw2 a]; simp⟩
  · simp only [Bool.or_eq_true, Bool.and_eq_true, Bool.not_eq_true', not_or, not_and, beq_iff_eq]
    exact ⟨ht, by rw [hk]; simp, fun a => by rw [hr a]; simp, fun a => by rw [hw a]; simp⟩
/-- Two calls of one kind by the same right are told the same. -/
theorem chk_eq {l : List T8} {c d : C5} (h : OkC l c) (hd : OkC l d) (hk : d.k = c.k) (hr : d.r = c.r) (ha : d.a = c.a) : chkV l d = chkV l c := by
  rw [chkV_go h.1 h.2, chkV_go hd.1 hd.2, hk, hr, ha]
/-- All is well with a right to read and to write that lives, at one's own label. -/
theorem chk_own {l : List T8} {c : C5} (h : OkC l c) (h3 : c.k ≠ 3) {jr jo : Nat} (hj : jr < l.length) (hr : c.r = (jr : Int) + 1) (hjo : jo < l.length) (ho : (rOf l c).t = (jo : Int) + 1) (hk : kindOk c.k l[jo].kind = true) (r1 : (rOf l c).r = true) (r2 : (rOf l c).w = true)
    (e1 : l[jo].sec = l[jr].sec) (e2 : l[jo].vou = l[jr].vou) (hl : liveB l (rOf l c) = true) : chkV l c = 0 := by
  have ht : thAt l (rOf l c).t = l[jo] := thAt_of hjo (by omega)
  have hth := (run_at h hj hr).1
  obtain ⟨s1, s2⟩ := sees_self h.tab hj hjo e1 e2
  exact chk_well h h3 (by omega) (by rw [ht]; exact hk) (fun _ => r1) (fun _ => r2) (fun _ => by rw [hth, ht]; exact s1) (fun _ => by rw [hth, ht]; exact s2) hl
theorem pass_nn {l : List T8} {c : C5} (h : OkC l c) (h0 : chkV l c = 0) (hk : c.k ≠ 6 ∧ c.k ≠ 7 ∧ c.k ≠ 8) : 0 ≤ (doV l c).2 := by
  rcases ans_pass h h0 with e | e
  · exact e
  · rcases (do_kinds h).1 e with k | k | k
    · exact absurd k hk.1
    · exact absurd k hk.2.1
    · exact absurd k hk.2.2
/-- The next call's right and what is told of it, behind one that neither copies nor fetches nor renews. -/
theorem nexts {l : List T8} {c d : C5} (h : OkC l c) (hd : OkC l d) (h3 : c.k ≠ 3) (h4 : c.k ≠ 4) (h8 : c.k ≠ 8) : OkC (doV l c).1 d ∧ rOf (doV l c).1 d = rOf l d ∧ chkV (doV l c).1 d = chkV l d ∧ liveB (doV l c).1 (rOf l d) = liveB l (rOf l d) :=
  ⟨h.on hd, rOf_on h hd h3 h4, chk_next h hd h3 h4 h8, live_on (do_len l c) (vers_on h h8 _)⟩
theorem thAt_do {l : List T8} {c : C5} {n : Int} {j : Nat} (hj : j < l.length) (hn : n - 1 = j) : thAt (doV l c).1 n = (doV l c).1[j]'(by rw [do_len]; exact hj) := thAt_of (by rw [do_len]; exact hj) hn
theorem write_read {l : List T8} {c d : C5} (h : OkC l c) (hd : OkC l d) (hk : c.k = 2) (hk' : d.k = 1) (hr' : d.r = c.r) (ha' : d.a = c.a) {jr jo : Nat} (hj : jr < l.length) (hr : c.r = (jr : Int) + 1) (hjo : jo < l.length) (ho : (rOf l c).t = (jo : Int) + 1) (hk1 : l[jo].kind = 1) (r1 : (rOf l c).r = true) (r2 : (rOf l c).w = true)
    (e1 : l[jo].sec = l[jr].sec) (e2 : l[jo].vou = l[jr].vou) (hl : liveB l (rOf l c) = true) : (doV l c).2 = 0 ∧ (doV (doV l c).1 d).2 = c.n := by
  have e := rOf_eq (l := l) hr' ha'
  have h0 := chk_own h (by omega) hj hr hjo ho (by rw [hk, hk1]; decide) r1 r2 e1 e2 hl
  have h0' := chk_own hd (by omega) hj (by omega) hjo (by rw [e]; exact ho) (by rw [hk', hk1]; decide) (by rw [e]; exact r1) (by rw [e]; exact r2) e1 e2 (by rw [e]; exact hl)
  obtain ⟨w1, w2⟩ := do_write h hk (pass_nn h h0 (by omega)) hjo ho
  rw [if_pos hl] at w2
  obtain ⟨n1, n2, n3, n4⟩ := nexts h hd (by omega) (by omega) (by omega)
  have := (do_read n1 hk' (pass_nn n1 (by rw [n3]; exact h0') (by omega))).2
  refine ⟨w1, ?_⟩
  rw [this, n2, e, ho, thAt_do hjo (by omega), w2]
theorem take_sent {l : List T8} {c d : C5} (h : OkC l c) (hd : OkC l d) (hk : c.k = 6) (hk' : d.k = 7) (hr' : d.r = c.r) (ha' : d.a = c.a) {jr jo : Nat} (hj : jr < l.length) (hr : c.r = (jr : Int) + 1) (hjo : jo < l.length) (ho : (rOf l c).t = (jo : Int) + 1) (hq : l[jo].queue = []) (ha : (doV l c).2 = 0) :
    (doV (doV l c).1 d).2 = c.n ∧ ((doV (doV l c).1 d).1[jo]'(by rw [do_len, do_len]; exact hjo)).queue = [] ∨ (doV (doV l c).1 d).2 = -1 ∨ (doV (doV l c).1 d).2 = -2 := by
  have e := rOf_eq (l := l) hr' ha'
  have h0 := pass_zero h ha
  obtain ⟨n1, n2, n3, n4⟩ := nexts h hd (by omega) (by omega) (by omega)
  rcases chk_vals n1 with v | v | v | v
  · left
    obtain ⟨s1, s2⟩ := sees_live v (by omega) (by rw [hk']; decide)
    rw [n2, n4, e] at s2
    have hs := do_send h hk h0 hj hr hjo ho
    rw [if_pos ⟨s2, by rw [hq]; simp⟩] at hs
    have ht := do_take n1 hk' v (by rw [do_len]; exact hj) (by omega) (by rw [do_len]; exact hjo) (by rw [n2, e]; exact ho)
    rw [hs.2, hq] at ht
    exact ⟨ht.2, by rw [ht.1]; rfl⟩
  · right; left; rw [ans_ref n1 (by omega), v]
  · right; right; rw [ans_ref n1 (by omega), v]
  · exfalso
    -- gone: seen, and dead; then the first one would have been told so
    obtain ⟨-, -, -, hko, -, hv⟩ := chk_facts (v := -3) v (by decide) (by omega)
    change (-3 : Int) = if ((!needR d.k || seesT (thAt (doV l c).1 d.r) (thAt (doV l c).1 (rOf (doV l c).1 d).t)) && (!needW d.k || touT (thAt (doV l c).1 d.r) (thAt (doV l c).1 (rOf (doV l c).1 d).t))) = false then -2 else if (seesT (thAt (doV l c).1 d.r) (thAt (doV l c).1 (rOf (doV l c).1 d).t) && !liveB (doV l c).1 (rOf (doV l c).1 d)) then -3 else 0 at hv
    rw [n2, n4, e, sees_on h, hr'] at hv
    split at hv
    · omega
    · split at hv
      · rename_i hh
        simp only [Bool.and_eq_true, Bool.not_eq_true'] at hh
        have := sees_gone h0 (by omega) hh.1
        rw [this] at hh; cases hh.2
      · omega
theorem send_two {l : List T8} {c c2 d d2 : C5} (h : OkC l c) (h2 : OkC l c2) (hd : OkC l d) (hd2 : OkC l d2) (hk : c.k = 6) (hk2 : c2.k = 6) (hk' : d.k = 7) (hk2' : d2.k = 7) (hr2 : c2.r = c.r) (ha2 : c2.a = c.a) (hr' : d.r = c.r) (ha' : d.a = c.a) (hr2' : d2.r = c.r) (ha2' : d2.a = c.a) {jr jo : Nat} (hj : jr < l.length) (hr : c.r = (jr : Int) + 1) (hjo : jo < l.length) (ho : (rOf l c).t = (jo : Int) + 1) (hq : l[jo].queue = []) (hk1 : l[jo].kind = 4) (r1 : (rOf l c).r = true) (r2 : (rOf l c).w = true)
    (e1 : l[jo].sec = l[jr].sec) (e2 : l[jo].vou = l[jr].vou) (hl : liveB l (rOf l c) = true) :
    (doV (doV (doV l c).1 c2).1 d).2 = c.n ∧ (doV (doV (doV (doV l c).1 c2).1 d).1 d2).2 = c2.n := by
  have f2 := rOf_eq (l := l) hr2 ha2
  have f3 := rOf_eq (l := l) hr' ha'
  have f4 := rOf_eq (l := l) hr2' ha2'
  have z1 := chk_own h (by omega) hj hr hjo ho (by rw [hk, hk1]; decide) r1 r2 e1 e2 hl
  have z2 : chkV l c2 = 0 := (chk_eq h h2 (by omega) hr2 ha2).trans z1
  have z3 := chk_own hd (by omega) hj (by omega) hjo (by rw [f3]; exact ho) (by rw [hk', hk1]; decide) (by rw [f3]; exact r1) (by rw [f3]; exact r2) e1 e2 (by rw [f3]; exact hl)
  have z4 : chkV l d2 = 0 := (chk_eq hd hd2 (by omega) (by omega) (by omega)).trans z3
  -- behind the first one
  obtain ⟨a1, a2, a3, a4⟩ := nexts h h2 (by omega) (by omega) (by omega)
  obtain ⟨b1, b2, b3, b4⟩ := nexts h hd (by omega) (by omega) (by omega)
  obtain ⟨g1, g2, g3, g4⟩ := nexts h hd2 (by omega) (by omega) (by omega)
  have s1 := do_send h hk z1 hj hr hjo ho
  rw [if_pos ⟨hl, by rw [hq]; simp⟩] at s1
  have L1 : (doV l c).1.length = l.length := do_len l c
  have q1 : ((doV l c).1[jo]'(by rw [do_len]; exact hjo)).queue = [c.n] := by rw [s1.2, hq]; rfl
  -- behind the second one
  obtain ⟨b1', b2', b3', b4'⟩ := nexts a1 b1 (by omega) (by omega) (by omega)
  obtain ⟨g1', g2', g3', g4'⟩ := nexts a1 g1 (by omega) (by omega) (by omega)
  have s2 := do_send a1 hk2 (by rw [a3]; exact z2) (show jr < _ by omega) (by omega) (show jo < _ by omega) (by rw [a2, f2]; exact ho)
  rw [if_pos ⟨by rw [a2, f2]; rw [f2] at a4; rw [a4]; exact hl, by rw [q1]; simp⟩] at s2
  have L2 : (doV (doV l c).1 c2).1.length = l.length := by rw [do_len]; exact L1
  have q2 : ((doV (doV l c).1 c2).1[jo]'(by rw [L2]; exact hjo)).queue = [c.n, c2.n] := by rw [s2.2]; simp [q1]
  -- behind the third one
  obtain ⟨g1'', g2'', g3'', g4''⟩ := nexts b1' g1' (by omega) (by omega) (by omega)
  have s3 := do_take b1' hk' (by rw [b3', b3]; exact z3) (show jr < _ by omega) (by omega) (show jo < _ by omega) (by rw [b2', b2, f3]; exact ho)
  rw [q2] at s3
  refine ⟨s3.2, ?_⟩
  have q3 := congrArg T8.queue s3.1
  have L3 : (doV (doV (doV l c).1 c2).1 d).1.length = l.length := by rw [do_len]; exact L2
  have s4 := do_take g1'' hk2' (by rw [g3'', g3', g3]; exact z4) (show jr < _ by omega) (by omega) (show jo < _ by omega) (by rw [g2'', g2', g2, f4]; exact ho)
  rw [q3] at s4
  exact s4.2
theorem slot_set_of {y : T8} {S : List R5} {k : Nat} {v : R5} (e : y.slots = S.set k v) (hk : k < S.length) : slotAt y (k : Int) = v := by
  unfold slotAt
  rw [e, show ((k : Int)).toNat = k by omega]
  simp [hk]
theorem store_fetch {l : List T8} {c d : C5} (h : OkC l c) (hd : OkC l d) (hk : c.k = 5) (hk' : d.k = 4) (hr' : d.r = c.r) (ha' : d.a = c.a) (hn : c.n = 2) (hn' : d.n = 2) {jb : Nat} (hb : d.b = (jb : Int)) (hb4 : jb < 4) {jr jo : Nat} (hj : jr < l.length) (hr : c.r = (jr : Int) + 1) (hjo : jo < l.length) (ho : (rOf l c).t = (jo : Int) + 1) (hk1 : l[jo].kind = 2) (r1 : (rOf l c).r = true) (r2 : (rOf l c).w = true)
    (e1 : l[jo].sec = l[jr].sec) (e2 : l[jo].vou = l[jr].vou) (hl : liveB l (rOf l c) = true) : (doV l c).2 = 0 ∧ (doV (doV l c).1 d).2 = 0 ∧ slotAt ((doV (doV l c).1 d).1[jr]'(by rw [do_len, do_len]; exact hj)) (jb : Int) = slotAt l[jr] c.b := by
  have e := rOf_eq (l := l) hr' ha'
  have h0 := chk_own h (by omega) hj hr hjo ho (by rw [hk, hk1]; decide) r1 r2 e1 e2 hl
  have h0' := chk_own hd (by omega) hj (by omega) hjo (by rw [e]; exact ho) (by rw [hk', hk1]; decide) (by rw [e]; exact r1) (by rw [e]; exact r2) e1 e2 (by rw [e]; exact hl)
  obtain ⟨w1, w2, w3⟩ := do_store h hk (pass_nn h h0 (by omega)) hj hr hjo ho
  rw [if_pos hl] at w3
  obtain ⟨n1, n2, n3, n4⟩ := nexts h hd (by omega) (by omega) (by omega)
  obtain ⟨f1, f2, -⟩ := do_fetch n1 hk' (pass_nn n1 (by rw [n3]; exact h0') (by omega)) (show jr < _ by rw [do_len]; exact hj) (by omega) (show jo < _ by rw [do_len]; exact hjo) (by rw [n2, e]; exact ho)
  refine ⟨w1, f1, ?_⟩
  have hkk : (rOf l c).k = false := by
    have := (rOf_in h).1
    unfold R5.ok at this
    simp only [okR, show (rOf l c).t ≠ 0 by omega, if_false, Bool.and_eq_true] at this
    have := this.2.2
    rw [r2] at this
    simpa using this
  have L4 : l[jr].slots.length = 4 := run4 h hj hr
  have N4 : l[jo].slots.length = 4 := node_slots (tab_okT h.tab hjo) (.inl hk1)
  have hx4 : ((doV l c).1[jr]'(by rw [do_len]; exact hj)).slots.length = 4 := by rw [w2]; exact L4
  have f3 := congrArg T8.slots f2
  rw [hb, show ((jb : Int)).toNat = jb by omega] at f3
  rw [slot_set_of f3 (by omega)]
  unfold gotR
  rw [n2, e, hkk, ho, thAt_do hjo (by omega), w3, hn, hn', if_neg (by decide)]
  simp [slotAt, N4]
theorem gone_twice {l : List T8} {c : C5} (h : OkC l c) (hk : c.k = 8) (ha : (doV l c).2 = 0) {jr jo : Nat} (hj : jr < l.length) (hr : c.r = (jr : Int) + 1) (hjo : jo < l.length) (ho : (rOf l c).t = (jo : Int) + 1) (hs : seesT l[jr] l[jo] = true) :
    (doV (doV l c).1 c).2 = -3 ∧ ((doV l c).1[jo]'(by rw [do_len]; exact hjo)).vers = l[jo].vers + 1 := by
  have h0 := pass_zero h ha
  have hth := (run_at h hj hr).1
  obtain ⟨hto, hko, hne⟩ := jo_ne h h0 (by omega) hj hr hjo ho
  have hl : liveB l (rOf l c) = true := sees_gone h0 (by omega) (by rw [hth, hto]; exact hs)
  have hv5 : l[jo].vers < 5 := by
    have e := act_far h0 (by omega) hl
    rw [far8 hk, hto, hth, hs] at e
    by_cases hv : 5 ≤ l[jo].vers
    · rw [if_pos hv] at e
      rw [do_snd, e] at ha
      simp at ha
    · omega
  have hd := do_renew h hk h0 hj hr hjo ho
  rw [if_pos ⟨hl, hv5⟩] at hd
  refine ⟨?_, by rw [hd]⟩
  have n1 : OkC (doV l c).1 c := h.on h
  have n2 := rOf_on h h (by omega) (by omega)
  have hv : chkV (doV l c).1 c = -3 := by
    obtain ⟨-, -, hin, hki, hrw, hv⟩ := chk_facts h0 (by decide) (by omega)
    change (0 : Int) = if ((!needR c.k || seesT (thAt l c.r) (thAt l (rOf l c).t)) && (!needW c.k || touT (thAt l c.r) (thAt l (rOf l c).t))) = false then -2 else if (seesT (thAt l c.r) (thAt l (rOf l c).t) && !liveB l (rOf l c)) then -3 else 0 at hv
    change ((!needR c.k || (rOf l c).r) && (!needW c.k || (rOf l c).w)) = true at hrw
    rw [chkV_go n1.1 n1.2, if_neg (by omega)]
    change useV _ _ (rOf (doV l c).1 c) c.k = -3
    rw [n2]
    have p1 := pub_at h c.r
    have p2 := pub_at h (rOf l c).t
    have lv : liveB (doV l c).1 (rOf l c) = false := by
      have a : versAt l ((rOf l c).t - 1) = l[jo].vers := by
        unfold versAt; rw [ho, show ((jo : Int) + 1 - 1).toNat = jo by omega, List.getElem?_eq_getElem hjo]; rfl
      have b : versAt (doV l c).1 ((rOf l c).t - 1) = l[jo].vers + 1 := by
        unfold versAt; rw [ho, show ((jo : Int) + 1 - 1).toNat = jo by omega, List.getElem?_eq_getElem (by rw [do_len]; exact hjo)]
        simp [hd]
      unfold liveB at hl ⊢
      simp only [Bool.and_eq_true, beq_iff_eq] at hl
      rw [b]
      have : (l[jo].vers + 1 == (rOf l c).v) = false := by simp; omega
      rw [this]; simp
    unfold useV
    rw [if_neg, if_neg, seesT_eq p1.2.1 p1.2.2.1 p2.2.1 p2.2.2.1, hth, hto, hs, lv]
    · rfl
    · rw [seesT_eq p1.2.1 p1.2.2.1 p2.2.1 p2.2.2.1, touT_eq p1.2.1 p1.2.2.1 p2.2.1 p2.2.2.1]
      split at hv
      · omega
      · rename_i hh
        intro hc
        apply hh
        revert hc
        cases needR c.k <;> cases needW c.k <;> cases seesT (thAt l c.r) (thAt l (rOf l c).t) <;> cases touT (thAt l c.r) (thAt l (rOf l c).t) <;> decide
    · rw [p2.1, hto, hko]
      have : ((rOf l c).t == 0) = false := by simp; omega
      rw [this]
      revert hrw
      cases needR c.k <;> cases needW c.k <;> cases (rOf l c).r <;> cases (rOf l c).w <;> decide
  rw [ans_ref n1 (by omega), hv]
theorem less_all {r : R5} (h : r.ok = true) : lessR r true true true = r := by
  unfold R5.ok at h
  obtain ⟨t, v, a, b, c⟩ := r
  by_cases ht : t = 0
  · subst ht
    obtain ⟨h1, h2, h3, h4⟩ := okR_null h
    dsimp only at h1 h2 h3 h4
    subst h1 h2 h3 h4
    rfl
  · have hg : lsG t v a b c = true := by simp [lsG, h, ht]
    simp [lessR, hg, lsA]
theorem less_none {r : R5} (h : r.ok = true) : (lessR r false false false).r = false ∧ (lessR r false false false).w = false ∧ ((lessR r false false false).t = 0 ∨ (lessR r false false false).k = true) := by
  unfold R5.ok at h
  refine ⟨by simp [lessR], by simp [lessR], ?_⟩
  by_cases ht : r.t = 0
  · left; simp [lessR, lsG, ht, lsA]
  · right
    have hg : lsG r.t r.v r.r r.w r.k = true := by simp [lsG, h, ht]
    simp [lessR, hg]
theorem gate_twice {l : List T8} {c d : C5} (h : OkC l c) (hd : OkC l d) (hk : c.k = 9) (hk' : d.k = 9) (hr' : d.r = c.r) (ha' : d.a = c.a) (h0 : chkV l c = 0) {jr jo : Nat} (hj : jr < l.length) (hr : c.r = (jr : Int) + 1) (hjo : jo < l.length) (ho : (rOf l c).t = (jo : Int) + 1) :
    ∃ jt : Nat, ∃ hjt : jt < l.length, l[jo].to = (jt : Int) + 1 ∧ (doV (doV l c).1 d).2 = 0 ∧ ((doV (doV l c).1 d).1[jo]'(by rw [do_len, do_len]; exact hjo)).num = min (l[jo].num + 2) 99 ∧ ((doV (doV l c).1 d).1[jt]'(by rw [do_len, do_len]; exact hjt)).num = d.n % 2 := by
  have e := rOf_eq (l := l) hr' ha'
  obtain ⟨n1, n2, n3, n4⟩ := nexts h hd (by omega) (by omega) (by omega)
  have z2 : chkV l d = 0 := (chk_eq h hd (by omega) hr' ha').trans h0
  obtain ⟨jt, hjt, t1, t2, t3, t4, t5, t6, t7, t8⟩ := do_gate h hk h0 hj hr hjo ho
  obtain ⟨jt', hjt', t1', t2', t3', t4', t5', t6', t7', t8'⟩ := do_gate n1 hk' (by rw [n3]; exact z2) (show jr < _ by rw [do_len]; exact hj) (by omega) (show jo < _ by rw [do_len]; exact hjo) (by rw [n2, e]; exact ho)
  have q1 := get_of t8 (i := jo) (by rw [do_len]; exact hjo)
  rw [List.getElem_set_ne (fun e => t6 e.symm), List.getElem_set_self] at q1
  have ejt : jt' = jt := by
    have := (do_same h hjo).2.2.2.1
    omega
  subst ejt
  refine ⟨jt', hjt, t1, t7', ?_, ?_⟩
  · have := get_of t8' (i := jo) (by rw [do_len, do_len]; exact hjo)
    rw [List.getElem_set_ne (fun e => t6 e.symm), List.getElem_set_self] at this
    rw [this, q1]
    dsimp only
    omega
  · have := get_of t8' (i := jt') (by rw [do_len, do_len]; exact hjt)
    rw [List.getElem_set_ne (fun e => t5 e.symm), List.getElem_set_ne (fun e => t4 e.symm), List.getElem_set_self] at this
    rw [this]
theorem page_only {l : List T8} {c : C5} (h : OkC l c) {i : Nat} (hi : i < l.length) : (doV l c).1[i]'(by rw [do_len]; exact hi) = l[i] ∨ (l[i].kind = 1 ∧ (c.k = 2 ∨ c.k = 8 ∨ c.k = 9)) ∨ (l[i].kind = 2 ∧ (c.k = 5 ∨ c.k = 8)) ∨ l[i].kind = 3 ∨ (l[i].kind = 4 ∧ (c.k = 6 ∨ c.k = 7 ∨ c.k = 8)) ∨ (l[i].kind = 5 ∧ c.k = 9) := by
  have := do_step h i hi
  generalize (doV l c).1[i]'(by rw [do_len]; exact hi) = y at this ⊢
  cases this with
  | same _ => exact .inl rfl
  | run S _ e _ => exact .inr (.inr (.inr (.inl e)))
  | write _ _ a b => exact .inr (.inl ⟨b, .inl a⟩)
  | store _ _ a b => exact .inr (.inr (.inl ⟨b, .inl a⟩))
  | send _ _ a b _ => exact .inr (.inr (.inr (.inr (.inl ⟨b, .inl a⟩))))
  | take q qs _ _ a b _ => exact .inr (.inr (.inr (.inr (.inl ⟨b, .inr (.inl a)⟩))))
  | renew _ _ a b _ =>
    rcases b with b | b | b
    · exact .inr (.inl ⟨b, .inr (.inl a)⟩)
    · exact .inr (.inr (.inl ⟨b, .inr a⟩))
    · exact .inr (.inr (.inr (.inr (.inl ⟨b, .inr (.inr a)⟩))))
  | gate _ _ a b => exact .inr (.inr (.inr (.inr (.inr ⟨b, a⟩))))
  | page _ a b _ _ => exact .inr (.inl ⟨b, .inr (.inr a)⟩)
theorem num_kept {l : List T8} {c : C5} (h : OkC l c) {i : Nat} (hi : i < l.length) (hk : ((doV l c).1[i]'(by rw [do_len]; exact hi)).kind = 1) :
    ((doV l c).1[i]'(by rw [do_len]; exact hi)).num = l[i].num ∨ ((doV l c).1[i]'(by rw [do_len]; exact hi)).num = 0 ∨ ((doV l c).1[i]'(by rw [do_len]; exact hi)).num = c.n ∨ ((doV l c).1[i]'(by rw [do_len]; exact hi)).num = c.n % 2 := by
  have := do_step h i hi
  generalize (doV l c).1[i]'(by rw [do_len]; exact hi) = y at this hk ⊢
  cases this with
  | run S _ e _ => dsimp only at hk; omega
  | write _ _ a b => exact .inr (.inr (.inl rfl))
  | renew _ _ a b _ => exact .inr (.inl rfl)
  | gate _ _ a b => dsimp only at hk; omega
  | page _ a b _ _ => exact .inr (.inr (.inr rfl))
  | _ => exact .inl rfl
theorem queue_kept {l : List T8} {c : C5} (h : OkC l c) {i : Nat} (hi : i < l.length) {q : Int} (hq : q ∈ ((doV l c).1[i]'(by rw [do_len]; exact hi)).queue) : q = c.n ∨ q ∈ l[i].queue := by
  have := do_step h i hi
  generalize (doV l c).1[i]'(by rw [do_len]; exact hi) = y at this hq ⊢
  cases this with
  | send _ _ a b _ =>
    rcases List.mem_append.1 hq with h | h
    · exact .inr h
    · exact .inl (by simpa using h)
  | take q0 qs _ _ a b e => rw [e]; exact .inr (List.mem_cons_of_mem _ hq)
  | renew _ _ a b _ => simp [newT] at hq
  | _ => exact .inr hq
theorem got_weak {l : List T8} {c : C5} (h : OkC l c) (hk : (rOf l c).k = true) {jo : Nat} (hjo : jo < l.length) (ho : (rOf l c).t = (jo : Int) + 1) : (gotR l c).w = false ∧ ((gotR l c).t = 0 ∨ (gotR l c).k = true) := by
  unfold gotR
  rw [if_pos hk]
  refine ⟨lessR_w _, ?_⟩
  have hx := (slot_in h.tab hjo (c.n % 4)).1
  rw [ho, thAt_of hjo (by omega)]
  generalize slotAt l[jo] (c.n % 4) = r at hx
  unfold R5.ok at hx
  by_cases ht : r.t = 0
  · left; simp [lessR, lsG, ht, lsA]
  · right
    have hg : lsG r.t r.v r.r r.w r.k = true := by simp [lsG, hx, ht]
    simp [lessR, hg]
theorem weak_chain {l : List T8} {c d : C5} (h : OkC l c) (hd : OkC l d) (hk : c.k = 4) (hk' : d.k = 4) (hr' : d.r = c.r) (ha' : d.a = c.b) (hb' : d.b = 0) (ha : 0 ≤ (doV l c).2) (hw : (rOf l c).k = true) {jr : Nat} (hj : jr < l.length) (hr : c.r = (jr : Int) + 1) :
    ((slotAt ((doV l c).1[jr]'(by rw [do_len]; exact hj)) c.b).t = 0 ∨ (slotAt ((doV l c).1[jr]'(by rw [do_len]; exact hj)) c.b).k = true) ∧
    ((doV (doV l c).1 d).2 < 0 ∨ (slotAt ((doV (doV l c).1 d).1[jr]'(by rw [do_len, do_len]; exact hj)) 0).t = 0 ∨ (slotAt ((doV (doV l c).1 d).1[jr]'(by rw [do_len, do_len]; exact hj)) 0).k = true ∧ (slotAt ((doV (doV l c).1 d).1[jr]'(by rw [do_len, do_len]; exact hj)) 0).w = false) := by
  have h0 := pass_of h ha
  obtain ⟨jo, hjo, ho, hne⟩ := obj_get h h0 (by omega) hj hr
  obtain ⟨-, f2, -⟩ := do_fetch h hk ha hj hr hjo ho
  have L4 : l[jr].slots.length = 4 := run4 h hj hr
  have hb := (C5.bd h.2).2.2.2.1
  have e1 : slotAt ((doV l c).1[jr]'(by rw [do_len]; exact hj)) c.b = gotR l c := by
    have f3 := slot_set_of (congrArg T8.slots f2) (by omega)
    rw [show ((c.b.toNat : Nat) : Int) = c.b by omega] at f3
    exact f3
  have hg := got_weak h hw hjo ho
  have n1 : OkC (doV l c).1 d := h.on hd
  have e2 : rOf (doV l c).1 d = gotR l c := by
    unfold rOf
    rw [hr', hr, thAt_do hj (by omega), ha', e1]
  rw [e1]
  refine ⟨hg.2, ?_⟩
  by_cases hn : (doV (doV l c).1 d).2 < 0
  · exact .inl hn
  right
  have z0 := pass_of n1 (by omega)
  have hj' : jr < (doV l c).1.length := by rw [do_len]; exact hj
  obtain ⟨jo', hjo', ho', -⟩ := obj_get n1 z0 (by omega) hj' (by omega)
  obtain ⟨-, g2, -⟩ := do_fetch n1 hk' (by omega) hj' (by omega) hjo' ho'
  have hg' := got_weak n1 (by
    rw [e2]
    rcases hg.2 with e | e
    · rw [e2] at ho'; omega
    · exact e) hjo' ho'
  have M4 := run4 n1 hj' (by omega)
  have e3 : slotAt ((doV (doV l c).1 d).1[jr]'(by rw [do_len, do_len]; exact hj)) 0 = gotR (doV l c).1 d := by
    have f3 := congrArg T8.slots g2
    rw [hb'] at f3
    exact slot_set_of (k := 0) f3 (by omega)
  rw [e3]
  rcases hg'.2 with e | e
  · exact .inl e
  · exact .inr ⟨e, hg'.1⟩
/-- A refused call, or a dead right, or a reading: only the answer is kept. -/
theorem do_only {l : List T8} {c : C5} {jr : Nat} (hj : jr < l.length) (hr : c.r = (jr : Int) + 1) (hA : (actV l c).1 = l) : (doV l c).1 = l.set jr { l[jr] with num := (doV l c).2 } := by
  rw [do_first hj hr, do_snd]
  have : (actV l c).1[jr]'(by rw [act_len]; exact hj) = l[jr] := get_of hA _
  rw [this, hA]
theorem read_act {l : List T8} {c : C5} (h : OkC l c) (hk : c.k = 1) : actV l c = (l, if chkV l c < 0 then chkV l c else if liveB l (rOf l c) = true ∧ seesT (thAt l c.r) (thAt l (rOf l c).t) = true then (thAt l (rOf l c).t).num else 0) := by
  by_cases h0 : chkV l c = 0
  · cases hl : liveB l (rOf l c) with
    | false => rw [act_dead h0 (by omega) hl, if_neg (by omega), if_neg (fun h => by cases h.1)]
    | true =>
      have hn : ¬ chkV l c < 0 := by omega
      rw [act_far h0 (by omega) hl, far1 hk, if_neg hn]
      simp
  · have hn := chk_neg h h0
    unfold actV
    rw [if_pos hn, if_pos hn]
theorem set_same {l : List T8} {jr : Nat} (hj : jr < l.length) {y : T8} (e : y = l[jr]) : l.set jr y = l := by
  subst e; simp
theorem read_twice {l : List T8} {c : C5} (h : OkC l c) (hk : c.k = 1) : doV (doV l c).1 c = ((doV l c).1, (doV l c).2) := by
  obtain ⟨jr, hj, hr, hth, hkr⟩ := h.run
  obtain ⟨n1, n2, n3, n4⟩ := nexts h h (by omega) (by omega) (by omega)
  have a1 := read_act h hk
  have a2 := read_act n1 hk
  have o1 := do_only hj hr (congrArg Prod.fst a1)
  have hj' : jr < (doV l c).1.length := by rw [do_len]; exact hj
  have o2 := do_only hj' hr (by rw [a2])
  have e2 : (doV (doV l c).1 c).2 = (doV l c).2 := by
    rw [do_snd, do_snd l, a1, a2]
    dsimp only
    rw [n3, n2, n4, sees_on h]
    by_cases h0 : chkV l c < 0
    · rw [if_pos h0, if_pos h0]
    · rw [if_neg h0, if_neg h0]
      have z : chkV l c = 0 := by rcases chk_vals h with e | e | e | e <;> omega
      obtain ⟨jo, hjo, ho, hne⟩ := obj_get h z (by omega) hj hr
      have : thAt (doV l c).1 (rOf l c).t = thAt l (rOf l c).t := by
        rw [thAt_do hjo (by omega), thAt_of hjo (by omega), get_of o1, List.getElem_set_ne (fun e => hne e.symm)]
      rw [this]
  refine Prod.ext ?_ e2
  rw [o2, e2]
  refine set_same hj' ?_
  have := do_num h hj hr
  rw [← this]
theorem write_act {l : List T8} {c : C5} (h : OkC l c) (hk : c.k = 2) {jo : Nat} (hjo : jo < l.length) (ho : (rOf l c).t = (jo : Int) + 1) (h0 : chkV l c = 0) : actV l c = (if liveB l (rOf l c) = true then l.set jo { l[jo] with num := c.n } else l, 0) := by
  cases hl : liveB l (rOf l c) with
  | false => rw [act_dead h0 (by omega) hl, if_neg (fun h => by cases h)]
  | true =>
    rw [act_far h0 (by omega) hl, far2 hk, ho, setTh_at, if_pos rfl, thAt_of hjo (by omega)]
    simp
theorem write_two {l : List T8} {c d : C5} (h : OkC l c) (hd : OkC l d) (hk : c.k = 2) (hk' : d.k = 2) (hr' : d.r = c.r) (ha' : d.a = c.a) : doV (doV l c).1 d = doV l d := by
  obtain ⟨jr, hj, hr, hth, hkr⟩ := h.run
  obtain ⟨n1, n2, n3, n4⟩ := nexts h hd (by omega) (by omega) (by omega)
  have hj' : jr < (doV l c).1.length := by rw [do_len]; exact hj
  have e := rOf_eq (l := l) hr' ha'
  have z2 := chk_eq h hd (by omega) hr' ha'
  by_cases h0 : chkV l c = 0
  case neg =>
    have u1 := do_unref h h0
    have u2 := do_unref hd (by rw [z2]; exact h0)
    have u3 := do_unref n1 (by rw [n3, z2]; exact h0)
    have o1 := do_only hj hr u1
    have o2 := do_only hj (by omega) u2
    have o3 := do_only hj' (by omega) u3
    have s2 : (doV l d).2 = chkV l c := by rw [ans_ref hd (by rw [z2]; exact h0), z2]
    have s3 : (doV (doV l c).1 d).2 = chkV l c := by rw [ans_ref n1 (by rw [n3, z2]; exact h0), n3, z2]
    refine Prod.ext ?_ (by rw [s2, s3])
    rw [o3, o2, s2, s3]
    have : (doV l c).1[jr] = { l[jr] with num := (doV l c).2 } := by rw [get_of o1]; simp
    rw [this, o1]
    simp
  obtain ⟨jo, hjo, ho, hne⟩ := obj_get h h0 (by omega) hj hr
  have hjo' : jo < (doV l c).1.length := by rw [do_len]; exact hjo
  have a1 := write_act h hk hjo ho h0
  have a2 := write_act hd hk' hjo (by rw [e]; exact ho) (by rw [z2]; exact h0)
  have a3 := write_act n1 hk' hjo' (by rw [n2, e]; exact ho) (by rw [n3, z2]; exact h0)
  rw [n2, n4, e] at a3
  rw [e] at a2
  have s1 : (doV l c).2 = 0 := by rw [do_snd, a1]
  have s2 : (doV l d).2 = 0 := by rw [do_snd, a2]
  have s3 : (doV (doV l c).1 d).2 = 0 := by rw [do_snd, a3]
  refine Prod.ext ?_ (by rw [s2, s3])
  cases hl : liveB l (rOf l c) with
  | false =>
    rw [hl, if_neg (fun h => by cases h)] at a1 a2 a3
    have o1 := do_only hj hr (congrArg Prod.fst a1)
    rw [do_only hj' (by omega) (by rw [a3]), do_only hj (by omega) (congrArg Prod.fst a2), s2, s3]
    have : (doV l c).1[jr] = { l[jr] with num := (doV l c).2 } := by rw [get_of o1]; simp
    rw [this, o1, s1]
    simp
  | true =>
    rw [hl, if_pos rfl] at a1 a2 a3
    have b1 := do_first hj hr
    have b2 := do_first (l := l) (c := d) hj (by omega)
    have b3 := do_first (c := d) hj' (by omega)
    have r1 : (actV l c).1[jr]'(by rw [act_len]; exact hj) = l[jr] := by rw [get_of (congrArg Prod.fst a1), List.getElem_set_ne hne]
    have r2 : (actV l d).1[jr]'(by rw [act_len]; exact hj) = l[jr] := by rw [get_of (congrArg Prod.fst a2), List.getElem_set_ne hne]
    have r3 : (actV (doV l c).1 d).1[jr]'(by rw [act_len]; exact hj') = (doV l c).1[jr] := by rw [get_of (congrArg Prod.fst a3), List.getElem_set_ne hne]
    rw [r1, a1] at b1
    rw [r2, a2] at b2
    rw [r3, a3] at b3
    have q1 : (doV l c).1[jr] = { l[jr] with num := 0 } := by rw [get_of b1]; simp
    have q2 : (doV l c).1[jo] = { l[jo] with num := c.n } := by
      rw [get_of b1, List.getElem_set_ne (fun e => hne e.symm)]; simp
    rw [q1, q2] at b3
    refine b3.trans ?_
    rw [b2]
    dsimp only
    rw [b1]
    dsimp only
    apply List.ext_getElem (by simp)
    intro i h1 h2
    simp only [List.getElem_set]
    by_cases ha : jr = i
    · simp [ha]
    · by_cases hb : jo = i
      · simp [ha, hb]
      · simp [ha, hb]
/-- Another runner's rights and number are nothing to a call. -/
theorem act_apart {l : List T8} {c : C5} (h : OkC l c) {jd : Nat} (hjd : jd < l.length) (hne : c.r ≠ (jd : Int) + 1) (hk3 : l[jd].kind = 3) {Z : T8} (z1 : Z.kind = 3) (z2 : Z.sec = l[jd].sec) (z3 : Z.vou = l[jd].vou) (z4 : Z.vers = l[jd].vers) (hT : tabOk (l.set jd Z) = true) :
    actV (l.set jd Z) c = ((actV l c).1.set jd Z, (actV l c).2) ∧ OkC (l.set jd Z) c := by
  obtain ⟨jr, hj, hr, hth, hkr⟩ := h.run
  have hnj : jd ≠ jr := fun e => hne (by rw [hr, e])
  have k1 := th_same T8.kind (l := l) (j := jd) (x := Z) (fun _ => by rw [z1, hk3])
  have k2 := th_same T8.sec (l := l) (j := jd) (x := Z) (fun _ => z2)
  have k3 := th_same T8.vou (l := l) (j := jd) (x := Z) (fun _ => z3)
  have k4 := th_same T8.vers (l := l) (j := jd) (x := Z) (fun _ => z4)
  have hrun : thAt (l.set jd Z) c.r = thAt l c.r := by
    rw [thAt_of (j := jr) (by simpa using hj) (by omega), hth, List.getElem_set_ne hnj]
  have hR : isRun (l.set jd Z) c.r = true := by
    have := h.1
    simp only [Bool.and_eq_true] at this
    have h2 := this.2
    unfold isRun at h2 ⊢
    rw [hrun, List.length_set]; exact h2
  have hO : OkC (l.set jd Z) c := ⟨by rw [hT, hR]; rfl, h.2⟩
  refine ⟨?_, hO⟩
  have hro : rOf (l.set jd Z) c = rOf l c := by unfold rOf; rw [hrun]
  have hlive : liveB (l.set jd Z) (rOf l c) = liveB l (rOf l c) := live_on (by simp) (k4 _)
  have hchk : chkV (l.set jd Z) c = chkV l c := by
    rw [chkV_go hO.1 hO.2, chkV_go h.1 h.2]
    split
    · rfl
    · change useV _ _ (rOf (l.set jd Z) c) c.k = useV _ _ (rOf l c) c.k
      rw [hro]
      exact useV_eq (k1 _) (by rw [hrun]; exact seesT_eq rfl rfl (k2 _) (k3 _)) (by rw [hrun]; exact touT_eq rfl rfl (k2 _) (k3 _)) hlive
  by_cases h0 : chkV l c = 0
  case neg =>
    have hn := chk_neg h h0
    have e1 : actV l c = (l, chkV l c) := by unfold actV; rw [if_pos hn]
    have e2 : actV (l.set jd Z) c = (l.set jd Z, chkV l c) := by unfold actV; rw [hchk, if_pos hn]
    rw [e1, e2]
  by_cases h3 : c.k = 3
  · rw [act_copy hO h3, act_copy h h3, hrun, hro, hr, setTh_at, setTh_at]
    exact Prod.ext (List.set_comm _ _ (fun e => hnj e)) rfl
  cases hl : liveB l (rOf l c) with
  | false => rw [act_dead (by rw [hchk]; exact h0) h3 (by rw [hro, hlive]; exact hl), act_dead h0 h3 hl]
  | true =>
    obtain ⟨jo, hjo, ho, hto, hko⟩ := obj_of h0 h3
    have hoj : jd ≠ jo := fun e => by subst e; exact kinds_ne hko hk3
    have hto' : thAt (l.set jd Z) (rOf l c).t = thAt l (rOf l c).t := by
      rw [thAt_of (j := jo) (by simpa using hjo) (by omega), hto, List.getElem_set_ne hoj]
    rw [act_far (by rw [hchk]; exact h0) h3 (by rw [hro, hlive]; exact hl), act_far h0 h3 hl, hro, hrun, hto']
    have key : farV (l.set jd Z) c (rOf l c) = ((farV l c (rOf l c)).1.set jd Z, (farV l c (rOf l c)).2) := by
      rcases eight (ok_k h.2).1 h3 with hk | hk | hk | hk | hk | hk | hk | hk
      · rw [far1 hk, far1 hk, hto']
      · rw [far2 hk, far2 hk, hto', ho, setTh_at, setTh_at]; exact Prod.ext (List.set_comm _ _ hoj) rfl
      · rw [far4 hk, far4 hk, hto', hrun, hr, setTh_at, setTh_at]; exact Prod.ext (List.set_comm _ _ hnj) rfl
      · rw [far5 hk, far5 hk, hto', hrun, ho, setTh_at, setTh_at]; exact Prod.ext (List.set_comm _ _ hoj) rfl
      · rw [far6 hk, far6 hk, hto', ho, setTh_at, setTh_at]
        split
        · rfl
        · exact Prod.ext (List.set_comm _ _ hoj) rfl
      · cases hq : (thAt l (rOf l c).t).queue with
        | nil => rw [far7n hk (by rw [hto']; exact hq), far7n hk hq]
        | cons q qs => rw [far7 hk (by rw [hto']; exact hq), far7 hk hq, hto', ho, setTh_at, setTh_at]; exact Prod.ext (List.set_comm _ _ hoj) rfl
      · rw [far8 hk, far8 hk, hto', ho, setTh_at, setTh_at]
        split
        · rfl
        · exact Prod.ext (List.set_comm _ _ hoj) rfl
      · have hko5 : l[jo].kind = 5 := by have := kind_of hko; simpa [kindsOf, hk] using this
        obtain ⟨jt, hjt, hgo, hkt⟩ := gate_to h.tab hjo hko5
        have htj : jd ≠ jt := fun e => by subst e; omega
        have htt : thAt (l.set jd Z) (l[jo]).to = thAt l (l[jo]).to := by
          rw [thAt_of (j := jt) (by simpa using hjt) (by omega), thAt_of hjt (by omega), List.getElem_set_ne htj]
        rw [far9 hk, far9 hk, hto', hto, htt, hgo, ho, setTh_at, setTh_at, setTh_at, setTh_at]
        refine Prod.ext ?_ rfl
        dsimp only
        rw [List.set_comm (i := jd) (j := jt) _ _ htj, List.set_comm (i := jd) (j := jo) _ _ hoj]
    rw [key]
theorem do_apart {l : List T8} {c : C5} (h : OkC l c) {jd : Nat} (hjd : jd < l.length) (hne : c.r ≠ (jd : Int) + 1) (hk3 : l[jd].kind = 3) {Z : T8} (z1 : Z.kind = 3) (z2 : Z.sec = l[jd].sec) (z3 : Z.vou = l[jd].vou) (z4 : Z.vers = l[jd].vers) (hT : tabOk (l.set jd Z) = true) :
    doV (l.set jd Z) c = ((doV l c).1.set jd Z, (doV l c).2) ∧ OkC (l.set jd Z) c := by
  obtain ⟨e, hO⟩ := act_apart h hjd hne hk3 z1 z2 z3 z4 hT
  refine ⟨?_, hO⟩
  obtain ⟨jr, hj, hr, hth, hkr⟩ := h.run
  have hnj : jd ≠ jr := fun e => hne (by rw [hr, e])
  have hj' : jr < (l.set jd Z).length := by simpa using hj
  have s : (doV (l.set jd Z) c).2 = (doV l c).2 := by rw [do_snd, do_snd l, e]
  refine Prod.ext ?_ s
  rw [do_first hj' hr, ← do_snd, s, do_first hj hr, ← do_snd]
  have a : (actV (l.set jd Z) c).1[jr]'(by rw [act_len]; exact hj') = (actV l c).1[jr]'(by rw [act_len]; exact hj) := by
    rw [get_of (congrArg Prod.fst e), List.getElem_set_ne hnj]
  rw [a, e]
  exact List.set_comm _ _ hnj
theorem do_two {l : List T8} {c d : C5} (h : OkC l c) (hd : OkC l d) (hk : d.k = 3) (hne : d.r ≠ c.r) : doV (doV l d).1 c = ((doV (doV l c).1 d).1, (doV l c).2) ∧ OkC (doV l d).1 c := by
  obtain ⟨jd, hjd, hdr, hdth, hk3⟩ := hd.run
  obtain ⟨-, d2⟩ := do_copy hd hk hjd hdr
  have a1 := congrArg Prod.fst (act_copy hd hk)
  rw [hdr, setTh_at, thAt_of hjd (by omega)] at a1
  have e1 : (doV l d).1 = l.set jd { l[jd] with num := 0, slots := l[jd].slots.set d.b.toNat (lessR (rOf l d) (mk1 d.n) (mk2 d.n) (mk4 d.n)) } := by
    rw [do_first hjd hdr, ← do_snd, (do_copy hd hk hjd hdr).1]
    simp [a1]
  have hT := do_tab hd
  rw [e1] at hT
  obtain ⟨p1, p2⟩ := do_apart h hjd (by omega) hk3 (Z := { l[jd] with num := 0, slots := l[jd].slots.set d.b.toNat (lessR (rOf l d) (mk1 d.n) (mk2 d.n) (mk4 d.n)) }) hk3 rfl rfl rfl hT
  rw [e1]
  refine ⟨?_, p2⟩
  rw [p1]
  refine Prod.ext ?_ rfl
  -- the copy behind the call
  have n1 : OkC (doV l c).1 d := h.on hd
  have hjd' : jd < (doV l c).1.length := by rw [do_len]; exact hjd
  have ho := do_other h hjd (by omega) hk3
  have hr2 : rOf (doV l c).1 d = rOf l d := by unfold rOf; rw [hdr, thAt_do hjd (by omega), ho, thAt_of hjd (by omega)]
  have a2 := congrArg Prod.fst (act_copy n1 hk)
  rw [hdr, setTh_at, thAt_of hjd' (by omega), hr2] at a2
  have e2 : (doV (doV l c).1 d).1 = (doV l c).1.set jd { (doV l c).1[jd] with num := 0, slots := (doV l c).1[jd].slots.set d.b.toNat (lessR (rOf l d) (mk1 d.n) (mk2 d.n) (mk4 d.n)) } := by
    rw [do_first hjd' hdr, ← do_snd, (do_copy n1 hk hjd' hdr).1]
    simp [a2]
  dsimp only
  rw [e2, ho]
end Go.Proofs.YtbopficnajdaoaaGreatDoor
