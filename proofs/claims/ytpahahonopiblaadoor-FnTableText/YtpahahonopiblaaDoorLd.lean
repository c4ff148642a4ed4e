/-
  The laws' sameness of things, decided.
-/
import Derived.Test.YtpahahonopiblaaDoorTabOk
import Derived.Deep.QuietTactic
import Derived.BigQuiet
namespace Go.Proofs.YtpahahonopiblaaDoor
open Go.RowKit
set_option maxRecDepth 100000
set_option linter.unusedVariables false

theorem T8.same {x y : T8} (h1 : x.kind = y.kind) (h2 : x.sec = y.sec) (h3 : x.vou = y.vou) (h4 : x.vers = y.vers) (h5 : x.num = y.num) (h6 : x.to = y.to) (h7 : x.slots = y.slots) (h8 : x.queue = y.queue) : x = y := by
  cases x; cases y; simp_all
theorem R5.same {x y : R5} (h1 : x.t = y.t) (h2 : x.v = y.v) (h3 : x.r = y.r) (h4 : x.w = y.w) (h5 : x.k = y.k) : x = y := by
  cases x; cases y; simp_all
theorem beqT {a b : Int} (h : a = b) : (a == b) = true := by simpa using h
theorem beqF {a b : Int} (h : ¬ a = b) : (a == b) = false := by simpa using h
theorem beqBT {a b : Bool} (h : a = b) : (a == b) = true := by simpa using h
theorem beqBF {a b : Bool} (h : ¬ a = b) : (a == b) = false := by cases a <;> cases b <;> simp_all

def LdPost (same : Prop) (w : World) (e : Ending) (w' : World) : Prop := ∃ v : Bool, e = .returned (.bool v) ∧ (v = true ↔ same) ∧ Below w.heap.size w w'
theorem two_box (w : World) (a b : Array Value) : Kn w [(w.heap.size + 1, 37, b), (w.heap.size, 37, a)] ((w.alloc (.cells a 37)).alloc (.cells b 37)) := by
  have k := ((Kn.refl (w := w)).new 37 a).new 37 b
  rw [show (w.alloc (.cells a 37)).heap.size = w.heap.size + 1 by simp] at k
  exact k

set_option maxHeartbeats 2000000 in
theorem ldThing_no0 (ka sb vb ra na tb ka' sb' vb' ra' na' tb' : Int) (sa ta qa pa : Option Addr) (sn tn qn pn sc tc qc pc : Nat) (w : World) (h : ¬ ka = ka') (h' : (ka == ka') = false) (h2 : (ka != ka') = true) :
    Calls Tryd.prog 55 #[.agg #[.int .i64 ka, .int .i64 sb, .int .i64 vb, .int .i64 ra, .int .i64 na, .slice sa sn sc, .slice qa qn qc, .int .i64 tb], .agg #[.int .i64 ka', .int .i64 sb', .int .i64 vb', .int .i64 ra', .int .i64 na', .slice ta tn tc, .slice pa pn pc, .int .i64 tb']] w fun e w' => e = .returned (.bool false) ∧ Below w.heap.size w w' := by
  have HK := Lib.hid (two_box w #[.int .i64 ka, .int .i64 sb, .int .i64 vb, .int .i64 ra, .int .i64 na, .slice sa sn sc, .slice qa qn qc, .int .i64 tb] #[.int .i64 ka', .int .i64 sb', .int .i64 vb', .int .i64 ra', .int .i64 na', .slice ta tn tc, .slice pa pn pc, .int .i64 tb'])
  go_enter Tryd.func55, Tryd.ntmps55
  go_wp2
  go_ret
  exact ⟨rfl, HK.out.1⟩

set_option maxHeartbeats 2000000 in
theorem ldThing_no1 (ka sb vb ra na tb ka' sb' vb' ra' na' tb' : Int) (sa ta qa pa : Option Addr) (sn tn qn pn sc tc qc pc : Nat) (w : World) (h : ¬ sb = sb') (h' : (sb == sb') = false) (h2 : (sb != sb') = true) :
    Calls Tryd.prog 55 #[.agg #[.int .i64 ka, .int .i64 sb, .int .i64 vb, .int .i64 ra, .int .i64 na, .slice sa sn sc, .slice qa qn qc, .int .i64 tb], .agg #[.int .i64 ka, .int .i64 sb', .int .i64 vb', .int .i64 ra', .int .i64 na', .slice ta tn tc, .slice pa pn pc, .int .i64 tb']] w fun e w' => e = .returned (.bool false) ∧ Below w.heap.size w w' := by
  have HK := Lib.hid (two_box w #[.int .i64 ka, .int .i64 sb, .int .i64 vb, .int .i64 ra, .int .i64 na, .slice sa sn sc, .slice qa qn qc, .int .i64 tb] #[.int .i64 ka, .int .i64 sb', .int .i64 vb', .int .i64 ra', .int .i64 na', .slice ta tn tc, .slice pa pn pc, .int .i64 tb'])
  go_enter Tryd.func55, Tryd.ntmps55
  go_wp2
  go_ret
  exact ⟨rfl, HK.out.1⟩

set_option maxHeartbeats 2000000 in
theorem ldThing_no2 (ka sb vb ra na tb ka' sb' vb' ra' na' tb' : Int) (sa ta qa pa : Option Addr) (sn tn qn pn sc tc qc pc : Nat) (w : World) (h : ¬ vb = vb') (h' : (vb == vb') = false) (h2 : (vb != vb') = true) :
    Calls Tryd.prog 55 #[.agg #[.int .i64 ka, .int .i64 sb, .int .i64 vb, .int .i64 ra, .int .i64 na, .slice sa sn sc, .slice qa qn qc, .int .i64 tb], .agg #[.int .i64 ka, .int .i64 sb, .int .i64 vb', .int .i64 ra', .int .i64 na', .slice ta tn tc, .slice pa pn pc, .int .i64 tb']] w fun e w' => e = .returned (.bool false) ∧ Below w.heap.size w w' := by
  have HK := Lib.hid (two_box w #[.int .i64 ka, .int .i64 sb, .int .i64 vb, .int .i64 ra, .int .i64 na, .slice sa sn sc, .slice qa qn qc, .int .i64 tb] #[.int .i64 ka, .int .i64 sb, .int .i64 vb', .int .i64 ra', .int .i64 na', .slice ta tn tc, .slice pa pn pc, .int .i64 tb'])
  go_enter Tryd.func55, Tryd.ntmps55
  go_wp2
  go_ret
  exact ⟨rfl, HK.out.1⟩

set_option maxHeartbeats 2000000 in
theorem ldThing_no3 (ka sb vb ra na tb ka' sb' vb' ra' na' tb' : Int) (sa ta qa pa : Option Addr) (sn tn qn pn sc tc qc pc : Nat) (w : World) (h : ¬ ra = ra') (h' : (ra == ra') = false) (h2 : (ra != ra') = true) :
    Calls Tryd.prog 55 #[.agg #[.int .i64 ka, .int .i64 sb, .int .i64 vb, .int .i64 ra, .int .i64 na, .slice sa sn sc, .slice qa qn qc, .int .i64 tb], .agg #[.int .i64 ka, .int .i64 sb, .int .i64 vb, .int .i64 ra', .int .i64 na', .slice ta tn tc, .slice pa pn pc, .int .i64 tb']] w fun e w' => e = .returned (.bool false) ∧ Below w.heap.size w w' := by
  have HK := Lib.hid (two_box w #[.int .i64 ka, .int .i64 sb, .int .i64 vb, .int .i64 ra, .int .i64 na, .slice sa sn sc, .slice qa qn qc, .int .i64 tb] #[.int .i64 ka, .int .i64 sb, .int .i64 vb, .int .i64 ra', .int .i64 na', .slice ta tn tc, .slice pa pn pc, .int .i64 tb'])
  go_enter Tryd.func55, Tryd.ntmps55
  go_wp2
  go_ret
  exact ⟨rfl, HK.out.1⟩

set_option maxHeartbeats 2000000 in
theorem ldThing_no4 (ka sb vb ra na tb ka' sb' vb' ra' na' tb' : Int) (sa ta qa pa : Option Addr) (sn tn qn pn sc tc qc pc : Nat) (w : World) (h : ¬ na = na') (h' : (na == na') = false) (h2 : (na != na') = true) :
    Calls Tryd.prog 55 #[.agg #[.int .i64 ka, .int .i64 sb, .int .i64 vb, .int .i64 ra, .int .i64 na, .slice sa sn sc, .slice qa qn qc, .int .i64 tb], .agg #[.int .i64 ka, .int .i64 sb, .int .i64 vb, .int .i64 ra, .int .i64 na', .slice ta tn tc, .slice pa pn pc, .int .i64 tb']] w fun e w' => e = .returned (.bool false) ∧ Below w.heap.size w w' := by
  have HK := Lib.hid (two_box w #[.int .i64 ka, .int .i64 sb, .int .i64 vb, .int .i64 ra, .int .i64 na, .slice sa sn sc, .slice qa qn qc, .int .i64 tb] #[.int .i64 ka, .int .i64 sb, .int .i64 vb, .int .i64 ra, .int .i64 na', .slice ta tn tc, .slice pa pn pc, .int .i64 tb'])
  go_enter Tryd.func55, Tryd.ntmps55
  go_wp2
  go_ret
  exact ⟨rfl, HK.out.1⟩

set_option maxHeartbeats 2000000 in
theorem ldThing_no5 (ka sb vb ra na tb ka' sb' vb' ra' na' tb' : Int) (sa ta qa pa : Option Addr) (sn tn qn pn sc tc qc pc : Nat) (w : World) (h : ¬ tb = tb') (h' : (tb == tb') = false) (h2 : (tb != tb') = true) :
    Calls Tryd.prog 55 #[.agg #[.int .i64 ka, .int .i64 sb, .int .i64 vb, .int .i64 ra, .int .i64 na, .slice sa sn sc, .slice qa qn qc, .int .i64 tb], .agg #[.int .i64 ka, .int .i64 sb, .int .i64 vb, .int .i64 ra, .int .i64 na, .slice ta tn tc, .slice pa pn pc, .int .i64 tb']] w fun e w' => e = .returned (.bool false) ∧ Below w.heap.size w w' := by
  have HK := Lib.hid (two_box w #[.int .i64 ka, .int .i64 sb, .int .i64 vb, .int .i64 ra, .int .i64 na, .slice sa sn sc, .slice qa qn qc, .int .i64 tb] #[.int .i64 ka, .int .i64 sb, .int .i64 vb, .int .i64 ra, .int .i64 na, .slice ta tn tc, .slice pa pn pc, .int .i64 tb'])
  go_enter Tryd.func55, Tryd.ntmps55
  go_wp2
  go_ret
  exact ⟨rfl, HK.out.1⟩

set_option maxHeartbeats 2000000 in
theorem ldThing_no6 (ka sb vb ra na tb ka' sb' vb' ra' na' tb' : Int) (sa ta qa pa : Option Addr) (sn tn qn pn sc tc qc pc : Nat) (w : World) (h : ¬ sn = tn) (h' : ((sn : Int) == (tn : Int)) = false) (h2 : ((sn : Int) != (tn : Int)) = true) :
    Calls Tryd.prog 55 #[.agg #[.int .i64 ka, .int .i64 sb, .int .i64 vb, .int .i64 ra, .int .i64 na, .slice sa sn sc, .slice qa qn qc, .int .i64 tb], .agg #[.int .i64 ka, .int .i64 sb, .int .i64 vb, .int .i64 ra, .int .i64 na, .slice ta tn tc, .slice pa pn pc, .int .i64 tb]] w fun e w' => e = .returned (.bool false) ∧ Below w.heap.size w w' := by
  have HK := Lib.hid (two_box w #[.int .i64 ka, .int .i64 sb, .int .i64 vb, .int .i64 ra, .int .i64 na, .slice sa sn sc, .slice qa qn qc, .int .i64 tb] #[.int .i64 ka, .int .i64 sb, .int .i64 vb, .int .i64 ra, .int .i64 na, .slice ta tn tc, .slice pa pn pc, .int .i64 tb])
  go_enter Tryd.func55, Tryd.ntmps55
  go_wp2
  go_ret
  exact ⟨rfl, HK.out.1⟩

set_option maxHeartbeats 2000000 in
theorem ldThing_no7 (ka sb vb ra na tb ka' sb' vb' ra' na' tb' : Int) (sa ta qa pa : Option Addr) (sn tn qn pn sc tc qc pc : Nat) (w : World) (h : ¬ qn = pn) (h' : ((qn : Int) == (pn : Int)) = false) (h2 : ((qn : Int) != (pn : Int)) = true) :
    Calls Tryd.prog 55 #[.agg #[.int .i64 ka, .int .i64 sb, .int .i64 vb, .int .i64 ra, .int .i64 na, .slice sa sn sc, .slice qa qn qc, .int .i64 tb], .agg #[.int .i64 ka, .int .i64 sb, .int .i64 vb, .int .i64 ra, .int .i64 na, .slice ta sn tc, .slice pa pn pc, .int .i64 tb]] w fun e w' => e = .returned (.bool false) ∧ Below w.heap.size w w' := by
  have HK := Lib.hid (two_box w #[.int .i64 ka, .int .i64 sb, .int .i64 vb, .int .i64 ra, .int .i64 na, .slice sa sn sc, .slice qa qn qc, .int .i64 tb] #[.int .i64 ka, .int .i64 sb, .int .i64 vb, .int .i64 ra, .int .i64 na, .slice ta sn tc, .slice pa pn pc, .int .i64 tb])
  go_enter Tryd.func55, Tryd.ntmps55
  go_wp2
  go_ret
  exact ⟨rfl, HK.out.1⟩

set_option maxHeartbeats 8000000 in
theorem ldThing_deep (ka sb vb ra na tb : Int) (xs ys : List R5) (xq yq : List Int) (sa ta qa pa : Option Addr) (sn qn sc tc qc pc : Nat) (w : World)
    (hs : HasR w ⟨sa, sn, sc⟩ xs) (hq : HasQ w ⟨qa, qn, qc⟩ xq) (ht : HasR w ⟨ta, sn, tc⟩ ys) (hp : HasQ w ⟨pa, qn, pc⟩ yq) (hz : sn ≤ 1048576) (hzq : qn ≤ 1048576) :
    Calls Tryd.prog 55 #[.agg (#[.int .i64 ka, .int .i64 sb, .int .i64 vb, .int .i64 ra, .int .i64 na, .slice sa sn sc, .slice qa qn qc, .int .i64 tb]), .agg (#[.int .i64 ka, .int .i64 sb, .int .i64 vb, .int .i64 ra, .int .i64 na, .slice ta sn tc, .slice pa qn pc, .int .i64 tb])] w (LdPost (xs = ys ∧ xq = yq) w) := by
  have HK := Lib.hid (two_box w (#[.int .i64 ka, .int .i64 sb, .int .i64 vb, .int .i64 ra, .int .i64 na, .slice sa sn sc, .slice qa qn qc, .int .i64 tb]) (#[.int .i64 ka, .int .i64 sb, .int .i64 vb, .int .i64 ra, .int .i64 na, .slice ta sn tc, .slice pa qn pc, .int .i64 tb]))
  have HS := Lib.hid hs
  have HQ := Lib.hid hq
  have HT := Lib.hid ht
  have HP := Lib.hid hp
  clear hs hq ht hp
  unfold LdPost
  go_enter Tryd.func55, Tryd.ntmps55
  go_wp2
  go_loopw [5] (fun i wr => ∃ k : Nat, k ≤ sn ∧ i = .int .i64 k ∧ Kn w [(w.heap.size + 1, 37, #[.int .i64 ka, .int .i64 sb, .int .i64 vb, .int .i64 ra, .int .i64 na, .slice ta sn tc, .slice pa qn pc, .int .i64 tb]), (w.heap.size, 37, #[.int .i64 ka, .int .i64 sb, .int .i64 vb, .int .i64 ra, .int .i64 na, .slice sa sn sc, .slice qa qn qc, .int .i64 tb])] wr ∧ ∀ j, j < k → xs[j]? = ys[j]?) (fun i _ => sn - (intOf i).toNat)
  case atStart => exact ⟨0, by omega, rfl, HK.out, fun j hj => absurd hj (by omega)⟩
  case round =>
    obtain ⟨k, hk, rfl, K1, hok⟩ := hrel
    have HK1 := Lib.hid K1
    have HOK := Lib.hid hok
    clear K1 hok
    have c0 := HK1.out.c (b := w.heap.size) (T := 37) (vs := #[.int .i64 ka, .int .i64 sb, .int .i64 vb, .int .i64 ra, .int .i64 na, .slice sa sn sc, .slice qa qn qc, .int .i64 tb]) (by simp) 0 _ rfl
    have c1 := HK1.out.c (b := w.heap.size) (T := 37) (vs := #[.int .i64 ka, .int .i64 sb, .int .i64 vb, .int .i64 ra, .int .i64 na, .slice sa sn sc, .slice qa qn qc, .int .i64 tb]) (by simp) 1 _ rfl
    have c2 := HK1.out.c (b := w.heap.size) (T := 37) (vs := #[.int .i64 ka, .int .i64 sb, .int .i64 vb, .int .i64 ra, .int .i64 na, .slice sa sn sc, .slice qa qn qc, .int .i64 tb]) (by simp) 2 _ rfl
    have c3 := HK1.out.c (b := w.heap.size) (T := 37) (vs := #[.int .i64 ka, .int .i64 sb, .int .i64 vb, .int .i64 ra, .int .i64 na, .slice sa sn sc, .slice qa qn qc, .int .i64 tb]) (by simp) 3 _ rfl
    have c4 := HK1.out.c (b := w.heap.size) (T := 37) (vs := #[.int .i64 ka, .int .i64 sb, .int .i64 vb, .int .i64 ra, .int .i64 na, .slice sa sn sc, .slice qa qn qc, .int .i64 tb]) (by simp) 4 _ rfl
    have c5 := HK1.out.c (b := w.heap.size) (T := 37) (vs := #[.int .i64 ka, .int .i64 sb, .int .i64 vb, .int .i64 ra, .int .i64 na, .slice sa sn sc, .slice qa qn qc, .int .i64 tb]) (by simp) 5 _ rfl
    have c6 := HK1.out.c (b := w.heap.size) (T := 37) (vs := #[.int .i64 ka, .int .i64 sb, .int .i64 vb, .int .i64 ra, .int .i64 na, .slice sa sn sc, .slice qa qn qc, .int .i64 tb]) (by simp) 6 _ rfl
    have c7 := HK1.out.c (b := w.heap.size) (T := 37) (vs := #[.int .i64 ka, .int .i64 sb, .int .i64 vb, .int .i64 ra, .int .i64 na, .slice sa sn sc, .slice qa qn qc, .int .i64 tb]) (by simp) 7 _ rfl
    have d0 := HK1.out.c (b := w.heap.size + 1) (T := 37) (vs := #[.int .i64 ka, .int .i64 sb, .int .i64 vb, .int .i64 ra, .int .i64 na, .slice ta sn tc, .slice pa qn pc, .int .i64 tb]) (by simp) 0 _ rfl
    have d1 := HK1.out.c (b := w.heap.size + 1) (T := 37) (vs := #[.int .i64 ka, .int .i64 sb, .int .i64 vb, .int .i64 ra, .int .i64 na, .slice ta sn tc, .slice pa qn pc, .int .i64 tb]) (by simp) 1 _ rfl
    have d2 := HK1.out.c (b := w.heap.size + 1) (T := 37) (vs := #[.int .i64 ka, .int .i64 sb, .int .i64 vb, .int .i64 ra, .int .i64 na, .slice ta sn tc, .slice pa qn pc, .int .i64 tb]) (by simp) 2 _ rfl
    have d3 := HK1.out.c (b := w.heap.size + 1) (T := 37) (vs := #[.int .i64 ka, .int .i64 sb, .int .i64 vb, .int .i64 ra, .int .i64 na, .slice ta sn tc, .slice pa qn pc, .int .i64 tb]) (by simp) 3 _ rfl
    have d4 := HK1.out.c (b := w.heap.size + 1) (T := 37) (vs := #[.int .i64 ka, .int .i64 sb, .int .i64 vb, .int .i64 ra, .int .i64 na, .slice ta sn tc, .slice pa qn pc, .int .i64 tb]) (by simp) 4 _ rfl
    have d5 := HK1.out.c (b := w.heap.size + 1) (T := 37) (vs := #[.int .i64 ka, .int .i64 sb, .int .i64 vb, .int .i64 ra, .int .i64 na, .slice ta sn tc, .slice pa qn pc, .int .i64 tb]) (by simp) 5 _ rfl
    have d6 := HK1.out.c (b := w.heap.size + 1) (T := 37) (vs := #[.int .i64 ka, .int .i64 sb, .int .i64 vb, .int .i64 ra, .int .i64 na, .slice ta sn tc, .slice pa qn pc, .int .i64 tb]) (by simp) 6 _ rfl
    have d7 := HK1.out.c (b := w.heap.size + 1) (T := 37) (vs := #[.int .i64 ka, .int .i64 sb, .int .i64 vb, .int .i64 ra, .int .i64 na, .slice ta sn tc, .slice pa qn pc, .int .i64 tb]) (by simp) 7 _ rfl
    by_cases hlt : k < sn
    · have hlt' : (k : Int) < (sn : Int) := by omega
      have hxl : k < xs.length := by rw [← HS.out.len]; exact hlt
      have hyl : k < ys.length := by rw [← HT.out.len]; exact hlt
      obtain ⟨b1, o1, a1, hA⟩ := (HS.out.stay HK1.out.1).at hxl
      obtain ⟨b2, o2, a2, hB⟩ := (HT.out.stay HK1.out.1).at hyl
      have HX := Lib.hid (show xs[k]? = some xs[k] from List.getElem?_eq_getElem hxl)
      have HY := Lib.hid (show ys[k]? = some ys[k] from List.getElem?_eq_getElem hyl)
      generalize xs[k] = r1 at *
      generalize ys[k] = r2 at *
      have m0 : wr.cell? ⟨b1, o1 + k * 5, none⟩ = some (.int .i64 r1.t) := hA 0 _ rfl
      have m1 := hA 1 _ rfl
      have m2 := hA 2 _ rfl
      have m3 := hA 3 _ rfl
      have m4 := hA 4 _ rfl
      have n0 : wr.cell? ⟨b2, o2 + k * 5, none⟩ = some (.int .i64 r2.t) := hB 0 _ rfl
      have n1 := hB 1 _ rfl
      have n2 := hB 2 _ rfl
      have n3 := hB 3 _ rfl
      have n4 := hB 4 _ rfl
      clear hA hB hxl hyl
      subst a1 a2
      go_upto_region 6 with fail
      by_cases g0 : r1.t = r2.t
      case neg =>
        have g0' := beqF g0
        have HN := Lib.hid (show ¬ (xs = ys ∧ xq = yq) from fun e => g0 (by have h1 := HX.out; have h2 := HY.out; rw [e.1, h2] at h1; cases h1; rfl))
        clear g0
        go_quiet (fail)
        go_wp2
        go_ret
        exact ⟨false, rfl, ⟨fun h => (by cases h), fun h => absurd h HN.out⟩, (HK1.out.drewN _).1⟩
      have g0' := beqT g0
      by_cases g1 : r1.v = r2.v
      case neg =>
        have g1' := beqF g1
        have HN := Lib.hid (show ¬ (xs = ys ∧ xq = yq) from fun e => g1 (by have h1 := HX.out; have h2 := HY.out; rw [e.1, h2] at h1; cases h1; rfl))
        clear g1
        go_quiet (fail)
        go_wp2
        go_ret
        exact ⟨false, rfl, ⟨fun h => (by cases h), fun h => absurd h HN.out⟩, (HK1.out.drewN _).1⟩
      have g1' := beqT g1
      by_cases g2 : r1.r = r2.r
      case neg =>
        have g2' := beqBF g2
        have HN := Lib.hid (show ¬ (xs = ys ∧ xq = yq) from fun e => g2 (by have h1 := HX.out; have h2 := HY.out; rw [e.1, h2] at h1; cases h1; rfl))
        clear g2
        go_quiet (fail)
        go_wp2
        go_ret
        exact ⟨false, rfl, ⟨fun h => (by cases h), fun h => absurd h HN.out⟩, (HK1.out.drewN _).1⟩
      have g2' := beqBT g2
      by_cases g3 : r1.w = r2.w
      case neg =>
        have g3' := beqBF g3
        have HN := Lib.hid (show ¬ (xs = ys ∧ xq = yq) from fun e => g3 (by have h1 := HX.out; have h2 := HY.out; rw [e.1, h2] at h1; cases h1; rfl))
        clear g3
        go_quiet (fail)
        go_wp2
        go_ret
        exact ⟨false, rfl, ⟨fun h => (by cases h), fun h => absurd h HN.out⟩, (HK1.out.drewN _).1⟩
      have g3' := beqBT g3
      by_cases g4 : r1.k = r2.k
      case neg =>
        have g4' := beqBF g4
        have HN := Lib.hid (show ¬ (xs = ys ∧ xq = yq) from fun e => g4 (by have h1 := HX.out; have h2 := HY.out; rw [e.1, h2] at h1; cases h1; rfl))
        clear g4
        go_quiet (fail)
        go_wp2
        go_ret
        exact ⟨false, rfl, ⟨fun h => (by cases h), fun h => absurd h HN.out⟩, (HK1.out.drewN _).1⟩
      have g4' := beqBT g4
      have HN := Lib.hid (show r1 = r2 from R5.same g0 g1 g2 g3 g4)
      clear g0 g1 g2 g3 g4
      go_quiet (fail)
      go_wp2
      go_roundw
      case rel =>
        refine ⟨k + 1, by omega, by go_num, HK1.out.drewN _, fun j hj => ?_⟩
        by_cases hjk : j = k
        · subst hjk; rw [HX.out, HY.out, HN.out]
        · exact HOK.out j (by omega)
      case measure => simp [intOf]; omega
    · have hlt' : ¬ (k : Int) < (sn : Int) := by omega
      have HSS := Lib.hid (show xs = ys by
        have l1 := HS.out.len
        have l2 := HT.out.len
        simp only at l1 l2
        apply List.ext_getElem?
        intro j
        by_cases hj : j < k
        · exact HOK.out j hj
        · rw [List.getElem?_eq_none (by omega), List.getElem?_eq_none (by omega)])
      have HJ := Lib.hid (show k = sn by omega)
      clear HOK hk hlt
      go_wp2
      clear hlt' c0 c1 c2 c3 c4 c5 c6 c7 d0 d1 d2 d3 d4 d5 d6 d7
      go_loopw [6] (fun i wr => ∃ k : Nat, k ≤ qn ∧ i = .int .i64 k ∧ Kn w [(w.heap.size + 1, 37, #[.int .i64 ka, .int .i64 sb, .int .i64 vb, .int .i64 ra, .int .i64 na, .slice ta sn tc, .slice pa qn pc, .int .i64 tb]), (w.heap.size, 37, #[.int .i64 ka, .int .i64 sb, .int .i64 vb, .int .i64 ra, .int .i64 na, .slice sa sn sc, .slice qa qn qc, .int .i64 tb])] wr ∧ ∀ j, j < k → xq[j]? = yq[j]?) (fun i _ => qn - (intOf i).toNat)
      case atStart => exact ⟨0, by omega, rfl, HK1.out, fun j hj => absurd hj (by omega)⟩
      case round =>
        obtain ⟨m, hm, rfl, K2, hok⟩ := hrel
        have HK2 := Lib.hid K2
        have HOK := Lib.hid hok
        clear K2 hok
        have c0 := HK2.out.c (b := w.heap.size) (T := 37) (vs := #[.int .i64 ka, .int .i64 sb, .int .i64 vb, .int .i64 ra, .int .i64 na, .slice sa sn sc, .slice qa qn qc, .int .i64 tb]) (by simp) 0 _ rfl
        have c1 := HK2.out.c (b := w.heap.size) (T := 37) (vs := #[.int .i64 ka, .int .i64 sb, .int .i64 vb, .int .i64 ra, .int .i64 na, .slice sa sn sc, .slice qa qn qc, .int .i64 tb]) (by simp) 1 _ rfl
        have c2 := HK2.out.c (b := w.heap.size) (T := 37) (vs := #[.int .i64 ka, .int .i64 sb, .int .i64 vb, .int .i64 ra, .int .i64 na, .slice sa sn sc, .slice qa qn qc, .int .i64 tb]) (by simp) 2 _ rfl
        have c3 := HK2.out.c (b := w.heap.size) (T := 37) (vs := #[.int .i64 ka, .int .i64 sb, .int .i64 vb, .int .i64 ra, .int .i64 na, .slice sa sn sc, .slice qa qn qc, .int .i64 tb]) (by simp) 3 _ rfl
        have c4 := HK2.out.c (b := w.heap.size) (T := 37) (vs := #[.int .i64 ka, .int .i64 sb, .int .i64 vb, .int .i64 ra, .int .i64 na, .slice sa sn sc, .slice qa qn qc, .int .i64 tb]) (by simp) 4 _ rfl
        have c5 := HK2.out.c (b := w.heap.size) (T := 37) (vs := #[.int .i64 ka, .int .i64 sb, .int .i64 vb, .int .i64 ra, .int .i64 na, .slice sa sn sc, .slice qa qn qc, .int .i64 tb]) (by simp) 5 _ rfl
        have c6 := HK2.out.c (b := w.heap.size) (T := 37) (vs := #[.int .i64 ka, .int .i64 sb, .int .i64 vb, .int .i64 ra, .int .i64 na, .slice sa sn sc, .slice qa qn qc, .int .i64 tb]) (by simp) 6 _ rfl
        have c7 := HK2.out.c (b := w.heap.size) (T := 37) (vs := #[.int .i64 ka, .int .i64 sb, .int .i64 vb, .int .i64 ra, .int .i64 na, .slice sa sn sc, .slice qa qn qc, .int .i64 tb]) (by simp) 7 _ rfl
        have d0 := HK2.out.c (b := w.heap.size + 1) (T := 37) (vs := #[.int .i64 ka, .int .i64 sb, .int .i64 vb, .int .i64 ra, .int .i64 na, .slice ta sn tc, .slice pa qn pc, .int .i64 tb]) (by simp) 0 _ rfl
        have d1 := HK2.out.c (b := w.heap.size + 1) (T := 37) (vs := #[.int .i64 ka, .int .i64 sb, .int .i64 vb, .int .i64 ra, .int .i64 na, .slice ta sn tc, .slice pa qn pc, .int .i64 tb]) (by simp) 1 _ rfl
        have d2 := HK2.out.c (b := w.heap.size + 1) (T := 37) (vs := #[.int .i64 ka, .int .i64 sb, .int .i64 vb, .int .i64 ra, .int .i64 na, .slice ta sn tc, .slice pa qn pc, .int .i64 tb]) (by simp) 2 _ rfl
        have d3 := HK2.out.c (b := w.heap.size + 1) (T := 37) (vs := #[.int .i64 ka, .int .i64 sb, .int .i64 vb, .int .i64 ra, .int .i64 na, .slice ta sn tc, .slice pa qn pc, .int .i64 tb]) (by simp) 3 _ rfl
        have d4 := HK2.out.c (b := w.heap.size + 1) (T := 37) (vs := #[.int .i64 ka, .int .i64 sb, .int .i64 vb, .int .i64 ra, .int .i64 na, .slice ta sn tc, .slice pa qn pc, .int .i64 tb]) (by simp) 4 _ rfl
        have d5 := HK2.out.c (b := w.heap.size + 1) (T := 37) (vs := #[.int .i64 ka, .int .i64 sb, .int .i64 vb, .int .i64 ra, .int .i64 na, .slice ta sn tc, .slice pa qn pc, .int .i64 tb]) (by simp) 5 _ rfl
        have d6 := HK2.out.c (b := w.heap.size + 1) (T := 37) (vs := #[.int .i64 ka, .int .i64 sb, .int .i64 vb, .int .i64 ra, .int .i64 na, .slice ta sn tc, .slice pa qn pc, .int .i64 tb]) (by simp) 6 _ rfl
        have d7 := HK2.out.c (b := w.heap.size + 1) (T := 37) (vs := #[.int .i64 ka, .int .i64 sb, .int .i64 vb, .int .i64 ra, .int .i64 na, .slice ta sn tc, .slice pa qn pc, .int .i64 tb]) (by simp) 7 _ rfl
        by_cases hlt : m < qn
        · have hlt' : (m : Int) < (qn : Int) := by omega
          have hxl : m < xq.length := by rw [← HQ.out.len]; exact hlt
          have hyl : m < yq.length := by rw [← HP.out.len]; exact hlt
          obtain ⟨b1, o1, a1, m0⟩ := (HQ.out.stay HK2.out.1).at hxl
          obtain ⟨b2, o2, a2, n0⟩ := (HP.out.stay HK2.out.1).at hyl
          have HX := Lib.hid (show xq[m]? = some xq[m] from List.getElem?_eq_getElem hxl)
          have HY := Lib.hid (show yq[m]? = some yq[m] from List.getElem?_eq_getElem hyl)
          generalize xq[m] = r1 at *
          generalize yq[m] = r2 at *
          clear hxl hyl
          subst a1 a2
          go_upto_region 11 with fail
          by_cases g : r1 = r2
          case neg =>
            have g' := beqF g
            have HN := Lib.hid (show ¬ (xs = ys ∧ xq = yq) from fun e => g (by have h1 := HX.out; have h2 := HY.out; rw [e.2, h2] at h1; cases h1; rfl))
            clear g
            go_quiet (fail)
            go_wp2
            go_ret
            exact ⟨false, rfl, ⟨fun h => (by cases h), fun h => absurd h HN.out⟩, (HK2.out.drewN _).1⟩
          have g' := beqT g
          have HN := Lib.hid g
          clear g
          go_quiet (fail)
          go_wp2
          go_roundw
          case rel =>
            refine ⟨m + 1, by omega, by go_num, HK2.out.drewN _, fun j hj => ?_⟩
            by_cases hjk : j = m
            · subst hjk; rw [HX.out, HY.out, HN.out]
            · exact HOK.out j (by omega)
          case measure => simp [intOf]; omega
        · have hlt' : ¬ (m : Int) < (qn : Int) := by omega
          have HQQ := Lib.hid (show xq = yq by
            have l1 := HQ.out.len
            have l2 := HP.out.len
            simp only at l1 l2
            apply List.ext_getElem?
            intro j
            by_cases hj : j < m
            · exact HOK.out j hj
            · rw [List.getElem?_eq_none (by omega), List.getElem?_eq_none (by omega)])
          clear HOK hm hlt
          go_wp2
          go_ret
          exact .inr ⟨rfl, ⟨HSS.out, HQQ.out⟩, HK2.out.1⟩

theorem ldThing_any (x y : T8) (s q t p : Sl) (w : World) (hs : HasR w s x.slots) (hq : HasQ w q x.queue) (ht : HasR w t y.slots) (hp : HasQ w p y.queue) (hz : x.slots.length ≤ 1048576) (hzq : x.queue.length ≤ 1048576) :
    Calls Tryd.prog 55 #[x.val s q, y.val t p] w (LdPost (x = y) w) := by
  obtain ⟨sa, sn, sc⟩ := s
  obtain ⟨qa, qn, qc⟩ := q
  obtain ⟨ta, tn, tc⟩ := t
  obtain ⟨pa, pn, pc⟩ := p
  obtain ⟨ka, sb, vb, ra, na, xs, xq, tb⟩ := x
  obtain ⟨ka', sb', vb', ra', na', ys, yq, tb'⟩ := y
  have l1 : sn = xs.length := hs.len
  have l2 : tn = ys.length := ht.len
  have l3 : qn = xq.length := hq.len
  have l4 : pn = yq.length := hp.len
  simp only at hz hzq
  by_cases g0 : ka = ka'
  case neg => exact (ldThing_no0 ka sb vb ra na tb ka' sb' vb' ra' na' tb' sa ta qa pa sn tn qn pn sc tc qc pc w g0 (beqF g0) (by simpa using g0)).mono fun e w' h => ⟨false, h.1, ⟨fun h => (by cases h), fun e => absurd (by injection e) g0⟩, h.2⟩
  subst g0
  by_cases g1 : sb = sb'
  case neg => exact (ldThing_no1 ka sb vb ra na tb ka sb' vb' ra' na' tb' sa ta qa pa sn tn qn pn sc tc qc pc w g1 (beqF g1) (by simpa using g1)).mono fun e w' h => ⟨false, h.1, ⟨fun h => (by cases h), fun e => absurd (by injection e) g1⟩, h.2⟩
  subst g1
  by_cases g2 : vb = vb'
  case neg => exact (ldThing_no2 ka sb vb ra na tb ka sb vb' ra' na' tb' sa ta qa pa sn tn qn pn sc tc qc pc w g2 (beqF g2) (by simpa using g2)).mono fun e w' h => ⟨false, h.1, ⟨fun h => (by cases h), fun e => absurd (by injection e) g2⟩, h.2⟩
  subst g2
  by_cases g3 : ra = ra'
  case neg => exact (ldThing_no3 ka sb vb ra na tb ka sb vb ra' na' tb' sa ta qa pa sn tn qn pn sc tc qc pc w g3 (beqF g3) (by simpa using g3)).mono fun e w' h => ⟨false, h.1, ⟨fun h => (by cases h), fun e => absurd (by injection e) g3⟩, h.2⟩
  subst g3
  by_cases g4 : na = na'
  case neg => exact (ldThing_no4 ka sb vb ra na tb ka sb vb ra na' tb' sa ta qa pa sn tn qn pn sc tc qc pc w g4 (beqF g4) (by simpa using g4)).mono fun e w' h => ⟨false, h.1, ⟨fun h => (by cases h), fun e => absurd (by injection e) g4⟩, h.2⟩
  subst g4
  by_cases g5 : tb = tb'
  case neg => exact (ldThing_no5 ka sb vb ra na tb ka sb vb ra na tb' sa ta qa pa sn tn qn pn sc tc qc pc w g5 (beqF g5) (by simpa using g5)).mono fun e w' h => ⟨false, h.1, ⟨fun h => (by cases h), fun e => absurd (by injection e) g5⟩, h.2⟩
  subst g5
  by_cases g6 : sn = tn
  case neg => exact (ldThing_no6 ka sb vb ra na tb ka sb vb ra na tb sa ta qa pa sn tn qn pn sc tc qc pc w g6 (by simp; omega) (by simp; omega)).mono fun e w' h => ⟨false, h.1, ⟨fun h => (by cases h), fun e => absurd (by injection e with _ _ _ _ _ e1; rw [l1, l2, e1]) g6⟩, h.2⟩
  subst g6
  by_cases g7 : qn = pn
  case neg => exact (ldThing_no7 ka sb vb ra na tb ka sb vb ra na tb sa ta qa pa sn sn qn pn sc tc qc pc w g7 (by simp; omega) (by simp; omega)).mono fun e w' h => ⟨false, h.1, ⟨fun h => (by cases h), fun e => absurd (by injection e with _ _ _ _ _ _ e1; rw [l3, l4, e1]) g7⟩, h.2⟩
  subst g7
  refine (ldThing_deep ka sb vb ra na tb xs ys xq yq sa ta qa pa sn qn sc tc qc pc w hs hq ht hp (by omega) (by omega)).mono fun e w' h => ?_
  obtain ⟨u, h1, h2, h3⟩ := h
  exact ⟨u, h1, by rw [h2]; simp, h3⟩
end Go.Proofs.YtpahahonopiblaaDoor
