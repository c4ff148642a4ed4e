/-
  Texts of ours as one: Ld, LdT, DrawCD, DoH, LdB, EtOf, ThgL.
-/
import Derived.Test.YtgpiclngkmjnpaaGreatDoorTabOk
import Derived.Deep.QuietTactic
import Derived.BigQuiet
import Derived.Test.YtgpiclngkmjnpaaGreatDoorDoM
import Derived.Test.YtgpiclngkmjnpaaGreatDoorThgI
import Derived.Test.YtgpiclngkmjnpaaGreatDoorCkM
import Derived.Test.YtgpiclngkmjnpaaGreatDoorSfM
import Derived.Test.YtgpiclngkmjnpaaGreatDoorErrAs
import Derived.RowKit
import Derived.RowKitTokens
import Derived.LaidLaws
import Derived.LaidHandle
import Derived.ChangeVars
import Derived.Test.YtgpiclngkmjnpaaGreatDoorThgA
import Derived.Stop.LaidErr
import Derived.ChangeArms
import Derived.ChangeSame
import Derived.Lib.LaidTab
namespace Go.Proofs.YtgpiclngkmjnpaaGreatDoor
open Go.RowKit
set_option maxRecDepth 100000
set_option linter.unusedVariables false

theorem T8.same {x y : T8} (h1 : x.kind = y.kind) (h2 : x.sec = y.sec) (h3 : x.vou = y.vou) (h4 : x.vers = y.vers) (h5 : x.num = y.num) (h6 : x.to = y.to) (h7 : x.slots = y.slots) (h8 : x.queue = y.queue) : x = y := by
  cases x; cases y; simp_all
theorem R5.same {x y : R5} (h1 : x.t = y.t) (h2 : x.v = y.v) (h3 : x.r = y.r) (h4 : x.w = y.w) (h5 : x.k = y.k) : x = y := by
  cases x; cases y; simp_all
theorem beqT {a b : Int} (h : a = b) : (a == b) = true := by simpa using h
theorem beqF {a b : Int} (h : ¬ a = b) : (a == b) = false := by simpa using h
theorem beqBT {a b : Bool} (h : a = b) : (a == b) = true := by simpa using h
theorem beqBF {a b : Bool} (h : ¬ a = b) : (a == b) = false := by cases a <;> cases b <;> simp_all

def LdPost (same : Prop) (w : World) (e : Ending) (w' : World) : Prop := ∃ v : Bool, e = .returned (.bool v) ∧ (v = true ↔ same) ∧ Below w.heap.size w w'
theorem two_box (w : World) (a b : Array Value) : Kn w [(w.heap.size + 1, 37, b), (w.heap.size, 37, a)] ((w.alloc (.cells a 37)).alloc (.cells b 37)) := by
  have k := ((Kn.refl (w := w)).new 37 a).new 37 b
  rw [show (w.alloc (.cells a 37)).heap.size = w.heap.size + 1 by simp] at k
  exact k

set_option maxHeartbeats 2000000 in
theorem ldThing_no0 (ka sb vb ra na tb ka' sb' vb' ra' na' tb' : Int) (sa ta qa pa : Option Addr) (sn tn qn pn sc tc qc pc : Nat) (w : World) (h : ¬ ka = ka') (h' : (ka == ka') = false) (h2 : (ka != ka') = true) :
    Calls Tryz.prog 24 #[.agg #[.int .i64 ka, .int .i64 sb, .int .i64 vb, .int .i64 ra, .int .i64 na, .slice sa sn sc, .slice qa qn qc, .int .i64 tb], .agg #[.int .i64 ka', .int .i64 sb', .int .i64 vb', .int .i64 ra', .int .i64 na', .slice ta tn tc, .slice pa pn pc, .int .i64 tb']] w fun e w' => e = .returned (.bool false) ∧ Below w.heap.size w w' := by
  have HK := Lib.hid (two_box w #[.int .i64 ka, .int .i64 sb, .int .i64 vb, .int .i64 ra, .int .i64 na, .slice sa sn sc, .slice qa qn qc, .int .i64 tb] #[.int .i64 ka', .int .i64 sb', .int .i64 vb', .int .i64 ra', .int .i64 na', .slice ta tn tc, .slice pa pn pc, .int .i64 tb'])
  go_enter Tryz.func24, Tryz.ntmps24
  go_wp2
  go_ret
  exact ⟨rfl, HK.out.1⟩

set_option maxHeartbeats 2000000 in
theorem ldThing_no1 (ka sb vb ra na tb ka' sb' vb' ra' na' tb' : Int) (sa ta qa pa : Option Addr) (sn tn qn pn sc tc qc pc : Nat) (w : World) (h : ¬ sb = sb') (h' : (sb == sb') = false) (h2 : (sb != sb') = true) :
    Calls Tryz.prog 24 #[.agg #[.int .i64 ka, .int .i64 sb, .int .i64 vb, .int .i64 ra, .int .i64 na, .slice sa sn sc, .slice qa qn qc, .int .i64 tb], .agg #[.int .i64 ka, .int .i64 sb', .int .i64 vb', .int .i64 ra', .int .i64 na', .slice ta tn tc, .slice pa pn pc, .int .i64 tb']] w fun e w' => e = .returned (.bool false) ∧ Below w.heap.size w w' := by
  have HK := Lib.hid (two_box w #[.int .i64 ka, .int .i64 sb, .int .i64 vb, .int .i64 ra, .int .i64 na, .slice sa sn sc, .slice qa qn qc, .int .i64 tb] #[.int .i64 ka, .int .i64 sb', .int .i64 vb', .int .i64 ra', .int .i64 na', .slice ta tn tc, .slice pa pn pc, .int .i64 tb'])
  go_enter Tryz.func24, Tryz.ntmps24
  go_wp2
  go_ret
  exact ⟨rfl, HK.out.1⟩

set_option maxHeartbeats 2000000 in
theorem ldThing_no2 (ka sb vb ra na tb ka' sb' vb' ra' na' tb' : Int) (sa ta qa pa : Option Addr) (sn tn qn pn sc tc qc pc : Nat) (w : World) (h : ¬ vb = vb') (h' : (vb == vb') = false) (h2 : (vb != vb') = true) :
    Calls Tryz.prog 24 #[.agg #[.int .i64 ka, .int .i64 sb, .int .i64 vb, .int .i64 ra, .int .i64 na, .slice sa sn sc, .slice qa qn qc, .int .i64 tb], .agg #[.int .i64 ka, .int .i64 sb, .int .i64 vb', .int .i64 ra', .int .i64 na', .slice ta tn tc, .slice pa pn pc, .int .i64 tb']] w fun e w' => e = .returned (.bool false) ∧ Below w.heap.size w w' := by
  have HK := Lib.hid (two_box w #[.int .i64 ka, .int .i64 sb, .int .i64 vb, .int .i64 ra, .int .i64 na, .slice sa sn sc, .slice qa qn qc, .int .i64 tb] #[.int .i64 ka, .int .i64 sb, .int .i64 vb', .int .i64 ra', .int .i64 na', .slice ta tn tc, .slice pa pn pc, .int .i64 tb'])
  go_enter Tryz.func24, Tryz.ntmps24
  go_wp2
  go_ret
  exact ⟨rfl, HK.out.1⟩

set_option maxHeartbeats 2000000 in
theorem ldThing_no3 (ka sb vb ra na tb ka' sb' vb' ra' na' tb' : Int) (sa ta qa pa : Option Addr) (sn tn qn pn sc tc qc pc : Nat) (w : World) (h : ¬ ra = ra') (h' : (ra == ra') = false) (h2 : (ra != ra') = true) :
    Calls Tryz.prog 24 #[.agg #[.int .i64 ka, .int .i64 sb, .int .i64 vb, .int .i64 ra, .int .i64 na, .slice sa sn sc, .slice qa qn qc, .int .i64 tb], .agg #[.int .i64 ka, .int .i64 sb, .int .i64 vb, .int .i64 ra', .int .i64 na', .slice ta tn tc, .slice pa pn pc, .int .i64 tb']] w fun e w' => e = .returned (.bool false) ∧ Below w.heap.size w w' := by
  have HK := Lib.hid (two_box w #[.int .i64 ka, .int .i64 sb, .int .i64 vb, .int .i64 ra, .int .i64 na, .slice sa sn sc, .slice qa qn qc, .int .i64 tb] #[.int .i64 ka, .int .i64 sb, .int .i64 vb, .int .i64 ra', .int .i64 na', .slice ta tn tc, .slice pa pn pc, .int .i64 tb'])
  go_enter Tryz.func24, Tryz.ntmps24
  go_wp2
  go_ret
  exact ⟨rfl, HK.out.1⟩

set_option maxHeartbeats 2000000 in
theorem ldThing_no4 (ka sb vb ra na tb ka' sb' vb' ra' na' tb' : Int) (sa ta qa pa : Option Addr) (sn tn qn pn sc tc qc pc : Nat) (w : World) (h : ¬ na = na') (h' : (na == na') = false) (h2 : (na != na') = true) :
    Calls Tryz.prog 24 #[.agg #[.int .i64 ka, .int .i64 sb, .int .i64 vb, .int .i64 ra, .int .i64 na, .slice sa sn sc, .slice qa qn qc, .int .i64 tb], .agg #[.int .i64 ka, .int .i64 sb, .int .i64 vb, .int .i64 ra, .int .i64 na', .slice ta tn tc, .slice pa pn pc, .int .i64 tb']] w fun e w' => e = .returned (.bool false) ∧ Below w.heap.size w w' := by
  have HK := Lib.hid (two_box w #[.int .i64 ka, .int .i64 sb, .int .i64 vb, .int .i64 ra, .int .i64 na, .slice sa sn sc, .slice qa qn qc, .int .i64 tb] #[.int .i64 ka, .int .i64 sb, .int .i64 vb, .int .i64 ra, .int .i64 na', .slice ta tn tc, .slice pa pn pc, .int .i64 tb'])
  go_enter Tryz.func24, Tryz.ntmps24
  go_wp2
  go_ret
  exact ⟨rfl, HK.out.1⟩

set_option maxHeartbeats 2000000 in
theorem ldThing_no5 (ka sb vb ra na tb ka' sb' vb' ra' na' tb' : Int) (sa ta qa pa : Option Addr) (sn tn qn pn sc tc qc pc : Nat) (w : World) (h : ¬ tb = tb') (h' : (tb == tb') = false) (h2 : (tb != tb') = true) :
    Calls Tryz.prog 24 #[.agg #[.int .i64 ka, .int .i64 sb, .int .i64 vb, .int .i64 ra, .int .i64 na, .slice sa sn sc, .slice qa qn qc, .int .i64 tb], .agg #[.int .i64 ka, .int .i64 sb, .int .i64 vb, .int .i64 ra, .int .i64 na, .slice ta tn tc, .slice pa pn pc, .int .i64 tb']] w fun e w' => e = .returned (.bool false) ∧ Below w.heap.size w w' := by
  have HK := Lib.hid (two_box w #[.int .i64 ka, .int .i64 sb, .int .i64 vb, .int .i64 ra, .int .i64 na, .slice sa sn sc, .slice qa qn qc, .int .i64 tb] #[.int .i64 ka, .int .i64 sb, .int .i64 vb, .int .i64 ra, .int .i64 na, .slice ta tn tc, .slice pa pn pc, .int .i64 tb'])
  go_enter Tryz.func24, Tryz.ntmps24
  go_wp2
  go_ret
  exact ⟨rfl, HK.out.1⟩

set_option maxHeartbeats 2000000 in
theorem ldThing_no6 (ka sb vb ra na tb ka' sb' vb' ra' na' tb' : Int) (sa ta qa pa : Option Addr) (sn tn qn pn sc tc qc pc : Nat) (w : World) (h : ¬ sn = tn) (h' : ((sn : Int) == (tn : Int)) = false) (h2 : ((sn : Int) != (tn : Int)) = true) :
    Calls Tryz.prog 24 #[.agg #[.int .i64 ka, .int .i64 sb, .int .i64 vb, .int .i64 ra, .int .i64 na, .slice sa sn sc, .slice qa qn qc, .int .i64 tb], .agg #[.int .i64 ka, .int .i64 sb, .int .i64 vb, .int .i64 ra, .int .i64 na, .slice ta tn tc, .slice pa pn pc, .int .i64 tb]] w fun e w' => e = .returned (.bool false) ∧ Below w.heap.size w w' := by
  have HK := Lib.hid (two_box w #[.int .i64 ka, .int .i64 sb, .int .i64 vb, .int .i64 ra, .int .i64 na, .slice sa sn sc, .slice qa qn qc, .int .i64 tb] #[.int .i64 ka, .int .i64 sb, .int .i64 vb, .int .i64 ra, .int .i64 na, .slice ta tn tc, .slice pa pn pc, .int .i64 tb])
  go_enter Tryz.func24, Tryz.ntmps24
  go_wp2
  go_ret
  exact ⟨rfl, HK.out.1⟩

set_option maxHeartbeats 2000000 in
theorem ldThing_no7 (ka sb vb ra na tb ka' sb' vb' ra' na' tb' : Int) (sa ta qa pa : Option Addr) (sn tn qn pn sc tc qc pc : Nat) (w : World) (h : ¬ qn = pn) (h' : ((qn : Int) == (pn : Int)) = false) (h2 : ((qn : Int) != (pn : Int)) = true) :
    Calls Tryz.prog 24 #[.agg #[.int .i64 ka, .int .i64 sb, .int .i64 vb, .int .i64 ra, .int .i64 na, .slice sa sn sc, .slice qa qn qc, .int .i64 tb], .agg #[.int .i64 ka, .int .i64 sb, .int .i64 vb, .int .i64 ra, .int .i64 na, .slice ta sn tc, .slice pa pn pc, .int .i64 tb]] w fun e w' => e = .returned (.bool false) ∧ Below w.heap.size w w' := by
  have HK := Lib.hid (two_box w #[.int .i64 ka, .int .i64 sb, .int .i64 vb, .int .i64 ra, .int .i64 na, .slice sa sn sc, .slice qa qn qc, .int .i64 tb] #[.int .i64 ka, .int .i64 sb, .int .i64 vb, .int .i64 ra, .int .i64 na, .slice ta sn tc, .slice pa pn pc, .int .i64 tb])
  go_enter Tryz.func24, Tryz.ntmps24
  go_wp2
  go_ret
  exact ⟨rfl, HK.out.1⟩

set_option maxHeartbeats 8000000 in
theorem ldThing_deep (ka sb vb ra na tb : Int) (xs ys : List R5) (xq yq : List Int) (sa ta qa pa : Option Addr) (sn qn sc tc qc pc : Nat) (w : World)
    (hs : HasR w ⟨sa, sn, sc⟩ xs) (hq : HasQ w ⟨qa, qn, qc⟩ xq) (ht : HasR w ⟨ta, sn, tc⟩ ys) (hp : HasQ w ⟨pa, qn, pc⟩ yq) (hz : sn ≤ 1048576) (hzq : qn ≤ 1048576) :
    Calls Tryz.prog 24 #[.agg (#[.int .i64 ka, .int .i64 sb, .int .i64 vb, .int .i64 ra, .int .i64 na, .slice sa sn sc, .slice qa qn qc, .int .i64 tb]), .agg (#[.int .i64 ka, .int .i64 sb, .int .i64 vb, .int .i64 ra, .int .i64 na, .slice ta sn tc, .slice pa qn pc, .int .i64 tb])] w (LdPost (xs = ys ∧ xq = yq) w) := by
  have HK := Lib.hid (two_box w (#[.int .i64 ka, .int .i64 sb, .int .i64 vb, .int .i64 ra, .int .i64 na, .slice sa sn sc, .slice qa qn qc, .int .i64 tb]) (#[.int .i64 ka, .int .i64 sb, .int .i64 vb, .int .i64 ra, .int .i64 na, .slice ta sn tc, .slice pa qn pc, .int .i64 tb]))
  have HS := Lib.hid hs
  have HQ := Lib.hid hq
  have HT := Lib.hid ht
  have HP := Lib.hid hp
  clear hs hq ht hp
  unfold LdPost
  go_enter Tryz.func24, Tryz.ntmps24
  go_wp2
  go_loopw [5] (fun i wr => ∃ k : Nat, k ≤ sn ∧ i = .int .i64 k ∧ Kn w [(w.heap.size + 1, 37, #[.int .i64 ka, .int .i64 sb, .int .i64 vb, .int .i64 ra, .int .i64 na, .slice ta sn tc, .slice pa qn pc, .int .i64 tb]), (w.heap.size, 37, #[.int .i64 ka, .int .i64 sb, .int .i64 vb, .int .i64 ra, .int .i64 na, .slice sa sn sc, .slice qa qn qc, .int .i64 tb])] wr ∧ ∀ j, j < k → xs[j]? = ys[j]?) (fun i _ => sn - (intOf i).toNat)
  case atStart => exact ⟨0, by omega, rfl, HK.out, fun j hj => absurd hj (by omega)⟩
  case round =>
    obtain ⟨k, hk, rfl, K1, hok⟩ := hrel
    have HK1 := Lib.hid K1
    have HOK := Lib.hid hok
    clear K1 hok
    have c0 := HK1.out.c (b := w.heap.size) (T := 37) (vs := #[.int .i64 ka, .int .i64 sb, .int .i64 vb, .int .i64 ra, .int .i64 na, .slice sa sn sc, .slice qa qn qc, .int .i64 tb]) (by simp) 0 _ rfl
    have c1 := HK1.out.c (b := w.heap.size) (T := 37) (vs := #[.int .i64 ka, .int .i64 sb, .int .i64 vb, .int .i64 ra, .int .i64 na, .slice sa sn sc, .slice qa qn qc, .int .i64 tb]) (by simp) 1 _ rfl
    have c2 := HK1.out.c (b := w.heap.size) (T := 37) (vs := #[.int .i64 ka, .int .i64 sb, .int .i64 vb, .int .i64 ra, .int .i64 na, .slice sa sn sc, .slice qa qn qc, .int .i64 tb]) (by simp) 2 _ rfl
    have c3 := HK1.out.c (b := w.heap.size) (T := 37) (vs := #[.int .i64 ka, .int .i64 sb, .int .i64 vb, .int .i64 ra, .int .i64 na, .slice sa sn sc, .slice qa qn qc, .int .i64 tb]) (by simp) 3 _ rfl
    have c4 := HK1.out.c (b := w.heap.size) (T := 37) (vs := #[.int .i64 ka, .int .i64 sb, .int .i64 vb, .int .i64 ra, .int .i64 na, .slice sa sn sc, .slice qa qn qc, .int .i64 tb]) (by simp) 4 _ rfl
    have c5 := HK1.out.c (b := w.heap.size) (T := 37) (vs := #[.int .i64 ka, .int .i64 sb, .int .i64 vb, .int .i64 ra, .int .i64 na, .slice sa sn sc, .slice qa qn qc, .int .i64 tb]) (by simp) 5 _ rfl
    have c6 := HK1.out.c (b := w.heap.size) (T := 37) (vs := #[.int .i64 ka, .int .i64 sb, .int .i64 vb, .int .i64 ra, .int .i64 na, .slice sa sn sc, .slice qa qn qc, .int .i64 tb]) (by simp) 6 _ rfl
    have c7 := HK1.out.c (b := w.heap.size) (T := 37) (vs := #[.int .i64 ka, .int .i64 sb, .int .i64 vb, .int .i64 ra, .int .i64 na, .slice sa sn sc, .slice qa qn qc, .int .i64 tb]) (by simp) 7 _ rfl
    have d0 := HK1.out.c (b := w.heap.size + 1) (T := 37) (vs := #[.int .i64 ka, .int .i64 sb, .int .i64 vb, .int .i64 ra, .int .i64 na, .slice ta sn tc, .slice pa qn pc, .int .i64 tb]) (by simp) 0 _ rfl
    have d1 := HK1.out.c (b := w.heap.size + 1) (T := 37) (vs := #[.int .i64 ka, .int .i64 sb, .int .i64 vb, .int .i64 ra, .int .i64 na, .slice ta sn tc, .slice pa qn pc, .int .i64 tb]) (by simp) 1 _ rfl
    have d2 := HK1.out.c (b := w.heap.size + 1) (T := 37) (vs := #[.int .i64 ka, .int .i64 sb, .int .i64 vb, .int .i64 ra, .int .i64 na, .slice ta sn tc, .slice pa qn pc, .int .i64 tb]) (by simp) 2 _ rfl
    have d3 := HK1.out.c (b := w.heap.size + 1) (T := 37) (vs := #[.int .i64 ka, .int .i64 sb, .int .i64 vb, .int .i64 ra, .int .i64 na, .slice ta sn tc, .slice pa qn pc, .int .i64 tb]) (by simp) 3 _ rfl
    have d4 := HK1.out.c (b := w.heap.size + 1) (T := 37) (vs := #[.int .i64 ka, .int .i64 sb, .int .i64 vb, .int .i64 ra, .int .i64 na, .slice ta sn tc, .slice pa qn pc, .int .i64 tb]) (by simp) 4 _ rfl
    have d5 := HK1.out.c (b := w.heap.size + 1) (T := 37) (vs := #[.int .i64 ka, .int .i64 sb, .int .i64 vb, .int .i64 ra, .int .i64 na, .slice ta sn tc, .slice pa qn pc, .int .i64 tb]) (by simp) 5 _ rfl
    have d6 := HK1.out.c (b := w.heap.size + 1) (T := 37) (vs := #[.int .i64 ka, .int .i64 sb, .int .i64 vb, .int .i64 ra, .int .i64 na, .slice ta sn tc, .slice pa qn pc, .int .i64 tb]) (by simp) 6 _ rfl
    have d7 := HK1.out.c (b := w.heap.size + 1) (T := 37) (vs := #[.int .i64 ka, .int .i64 sb, .int .i64 vb, .int .i64 ra, .int .i64 na, .slice ta sn tc, .slice pa qn pc, .int .i64 tb]) (by simp) 7 _ rfl
    by_cases hlt : k < sn
    · have hlt' : (k : Int) < (sn : Int) := by omega
      have hxl : k < xs.length := by rw [← HS.out.len]; exact hlt
      have hyl : k < ys.length := by rw [← HT.out.len]; exact hlt
      obtain ⟨b1, o1, a1, hA⟩ := (HS.out.stay HK1.out.1).at hxl
      obtain ⟨b2, o2, a2, hB⟩ := (HT.out.stay HK1.out.1).at hyl
      have HX := Lib.hid (show xs[k]? = some xs[k] from List.getElem?_eq_getElem hxl)
      have HY := Lib.hid (show ys[k]? = some ys[k] from List.getElem?_eq_getElem hyl)
      generalize xs[k] = r1 at *
      generalize ys[k] = r2 at *
      have m0 : wr.cell? ⟨b1, o1 + k * 5, none⟩ = some (.int .i64 r1.t) := hA 0 _ rfl
      have m1 := hA 1 _ rfl
      have m2 := hA 2 _ rfl
      have m3 := hA 3 _ rfl
      have m4 := hA 4 _ rfl
      have n0 : wr.cell? ⟨b2, o2 + k * 5, none⟩ = some (.int .i64 r2.t) := hB 0 _ rfl
      have n1 := hB 1 _ rfl
      have n2 := hB 2 _ rfl
      have n3 := hB 3 _ rfl
      have n4 := hB 4 _ rfl
      clear hA hB hxl hyl
      subst a1 a2
      go_upto_region 6 with fail
      by_cases g0 : r1.t = r2.t
      case neg =>
        have g0' := beqF g0
        have HN := Lib.hid (show ¬ (xs = ys ∧ xq = yq) from fun e => g0 (by have h1 := HX.out; have h2 := HY.out; rw [e.1, h2] at h1; cases h1; rfl))
        clear g0
        go_quiet (fail)
        go_wp2
        go_ret
        exact ⟨false, rfl, ⟨fun h => (by cases h), fun h => absurd h HN.out⟩, (HK1.out.drewN _).1⟩
      have g0' := beqT g0
      by_cases g1 : r1.v = r2.v
      case neg =>
        have g1' := beqF g1
        have HN := Lib.hid (show ¬ (xs = ys ∧ xq = yq) from fun e => g1 (by have h1 := HX.out; have h2 := HY.out; rw [e.1, h2] at h1; cases h1; rfl))
        clear g1
        go_quiet (fail)
        go_wp2
        go_ret
        exact ⟨false, rfl, ⟨fun h => (by cases h), fun h => absurd h HN.out⟩, (HK1.out.drewN _).1⟩
      have g1' := beqT g1
      by_cases g2 : r1.r = r2.r
      case neg =>
        have g2' := beqBF g2
        have HN := Lib.hid (show ¬ (xs = ys ∧ xq = yq) from fun e => g2 (by have h1 := HX.out; have h2 := HY.out; rw [e.1, h2] at h1; cases h1; rfl))
        clear g2
        go_quiet (fail)
        go_wp2
        go_ret
        exact ⟨false, rfl, ⟨fun h => (by cases h), fun h => absurd h HN.out⟩, (HK1.out.drewN _).1⟩
      have g2' := beqBT g2
      by_cases g3 : r1.w = r2.w
      case neg =>
        have g3' := beqBF g3
        have HN := Lib.hid (show ¬ (xs = ys ∧ xq = yq) from fun e => g3 (by have h1 := HX.out; have h2 := HY.out; rw [e.1, h2] at h1; cases h1; rfl))
        clear g3
        go_quiet (fail)
        go_wp2
        go_ret
        exact ⟨false, rfl, ⟨fun h => (by cases h), fun h => absurd h HN.out⟩, (HK1.out.drewN _).1⟩
      have g3' := beqBT g3
      by_cases g4 : r1.k = r2.k
      case neg =>
        have g4' := beqBF g4
        have HN := Lib.hid (show ¬ (xs = ys ∧ xq = yq) from fun e => g4 (by have h1 := HX.out; have h2 := HY.out; rw [e.1, h2] at h1; cases h1; rfl))
        clear g4
        go_quiet (fail)
        go_wp2
        go_ret
        exact ⟨false, rfl, ⟨fun h => (by cases h), fun h => absurd h HN.out⟩, (HK1.out.drewN _).1⟩
      have g4' := beqBT g4
      have HN := Lib.hid (show r1 = r2 from R5.same g0 g1 g2 g3 g4)
      clear g0 g1 g2 g3 g4
      go_quiet (fail)
      go_wp2
      go_roundw
      case rel =>
        refine ⟨k + 1, by omega, by go_num, HK1.out.drewN _, fun j hj => ?_⟩
        by_cases hjk : j = k
        · subst hjk; rw [HX.out, HY.out, HN.out]
        · exact HOK.out j (by omega)
      case measure => simp [intOf]; omega
    · have hlt' : ¬ (k : Int) < (sn : Int) := by omega
      have HSS := Lib.hid (show xs = ys by
        have l1 := HS.out.len
        have l2 := HT.out.len
        simp only at l1 l2
        apply List.ext_getElem?
        intro j
        by_cases hj : j < k
        · exact HOK.out j hj
        · rw [List.getElem?_eq_none (by omega), List.getElem?_eq_none (by omega)])
      have HJ := Lib.hid (show k = sn by omega)
      clear HOK hk hlt
      go_wp2
      clear hlt' c0 c1 c2 c3 c4 c5 c6 c7 d0 d1 d2 d3 d4 d5 d6 d7
      go_loopw [6] (fun i wr => ∃ k : Nat, k ≤ qn ∧ i = .int .i64 k ∧ Kn w [(w.heap.size + 1, 37, #[.int .i64 ka, .int .i64 sb, .int .i64 vb, .int .i64 ra, .int .i64 na, .slice ta sn tc, .slice pa qn pc, .int .i64 tb]), (w.heap.size, 37, #[.int .i64 ka, .int .i64 sb, .int .i64 vb, .int .i64 ra, .int .i64 na, .slice sa sn sc, .slice qa qn qc, .int .i64 tb])] wr ∧ ∀ j, j < k → xq[j]? = yq[j]?) (fun i _ => qn - (intOf i).toNat)
      case atStart => exact ⟨0, by omega, rfl, HK1.out, fun j hj => absurd hj (by omega)⟩
      case round =>
        obtain ⟨m, hm, rfl, K2, hok⟩ := hrel
        have HK2 := Lib.hid K2
        have HOK := Lib.hid hok
        clear K2 hok
        have c0 := HK2.out.c (b := w.heap.size) (T := 37) (vs := #[.int .i64 ka, .int .i64 sb, .int .i64 vb, .int .i64 ra, .int .i64 na, .slice sa sn sc, .slice qa qn qc, .int .i64 tb]) (by simp) 0 _ rfl
        have c1 := HK2.out.c (b := w.heap.size) (T := 37) (vs := #[.int .i64 ka, .int .i64 sb, .int .i64 vb, .int .i64 ra, .int .i64 na, .slice sa sn sc, .slice qa qn qc, .int .i64 tb]) (by simp) 1 _ rfl
        have c2 := HK2.out.c (b := w.heap.size) (T := 37) (vs := #[.int .i64 ka, .int .i64 sb, .int .i64 vb, .int .i64 ra, .int .i64 na, .slice sa sn sc, .slice qa qn qc, .int .i64 tb]) (by simp) 2 _ rfl
        have c3 := HK2.out.c (b := w.heap.size) (T := 37) (vs := #[.int .i64 ka, .int .i64 sb, .int .i64 vb, .int .i64 ra, .int .i64 na, .slice sa sn sc, .slice qa qn qc, .int .i64 tb]) (by simp) 3 _ rfl
        have c4 := HK2.out.c (b := w.heap.size) (T := 37) (vs := #[.int .i64 ka, .int .i64 sb, .int .i64 vb, .int .i64 ra, .int .i64 na, .slice sa sn sc, .slice qa qn qc, .int .i64 tb]) (by simp) 4 _ rfl
        have c5 := HK2.out.c (b := w.heap.size) (T := 37) (vs := #[.int .i64 ka, .int .i64 sb, .int .i64 vb, .int .i64 ra, .int .i64 na, .slice sa sn sc, .slice qa qn qc, .int .i64 tb]) (by simp) 5 _ rfl
        have c6 := HK2.out.c (b := w.heap.size) (T := 37) (vs := #[.int .i64 ka, .int .i64 sb, .int .i64 vb, .int .i64 ra, .int .i64 na, .slice sa sn sc, .slice qa qn qc, .int .i64 tb]) (by simp) 6 _ rfl
        have c7 := HK2.out.c (b := w.heap.size) (T := 37) (vs := #[.int .i64 ka, .int .i64 sb, .int .i64 vb, .int .i64 ra, .int .i64 na, .slice sa sn sc, .slice qa qn qc, .int .i64 tb]) (by simp) 7 _ rfl
        have d0 := HK2.out.c (b := w.heap.size + 1) (T := 37) (vs := #[.int .i64 ka, .int .i64 sb, .int .i64 vb, .int .i64 ra, .int .i64 na, .slice ta sn tc, .slice pa qn pc, .int .i64 tb]) (by simp) 0 _ rfl
        have d1 := HK2.out.c (b := w.heap.size + 1) (T := 37) (vs := #[.int .i64 ka, .int .i64 sb, .int .i64 vb, .int .i64 ra, .int .i64 na, .slice ta sn tc, .slice pa qn pc, .int .i64 tb]) (by simp) 1 _ rfl
        have d2 := HK2.out.c (b := w.heap.size + 1) (T := 37) (vs := #[.int .i64 ka, .int .i64 sb, .int .i64 vb, .int .i64 ra, .int .i64 na, .slice ta sn tc, .slice pa qn pc, .int .i64 tb]) (by simp) 2 _ rfl
        have d3 := HK2.out.c (b := w.heap.size + 1) (T := 37) (vs := #[.int .i64 ka, .int .i64 sb, .int .i64 vb, .int .i64 ra, .int .i64 na, .slice ta sn tc, .slice pa qn pc, .int .i64 tb]) (by simp) 3 _ rfl
        have d4 := HK2.out.c (b := w.heap.size + 1) (T := 37) (vs := #[.int .i64 ka, .int .i64 sb, .int .i64 vb, .int .i64 ra, .int .i64 na, .slice ta sn tc, .slice pa qn pc, .int .i64 tb]) (by simp) 4 _ rfl
        have d5 := HK2.out.c (b := w.heap.size + 1) (T := 37) (vs := #[.int .i64 ka, .int .i64 sb, .int .i64 vb, .int .i64 ra, .int .i64 na, .slice ta sn tc, .slice pa qn pc, .int .i64 tb]) (by simp) 5 _ rfl
        have d6 := HK2.out.c (b := w.heap.size + 1) (T := 37) (vs := #[.int .i64 ka, .int .i64 sb, .int .i64 vb, .int .i64 ra, .int .i64 na, .slice ta sn tc, .slice pa qn pc, .int .i64 tb]) (by simp) 6 _ rfl
        have d7 := HK2.out.c (b := w.heap.size + 1) (T := 37) (vs := #[.int .i64 ka, .int .i64 sb, .int .i64 vb, .int .i64 ra, .int .i64 na, .slice ta sn tc, .slice pa qn pc, .int .i64 tb]) (by simp) 7 _ rfl
        by_cases hlt : m < qn
        · have hlt' : (m : Int) < (qn : Int) := by omega
          have hxl : m < xq.length := by rw [← HQ.out.len]; exact hlt
          have hyl : m < yq.length := by rw [← HP.out.len]; exact hlt
          obtain ⟨b1, o1, a1, m0⟩ := (HQ.out.stay HK2.out.1).at hxl
          obtain ⟨b2, o2, a2, n0⟩ := (HP.out.stay HK2.out.1).at hyl
          have HX := Lib.hid (show xq[m]? = some xq[m] from List.getElem?_eq_getElem hxl)
          have HY := Lib.hid (show yq[m]? = some yq[m] from List.getElem?_eq_getElem hyl)
          generalize xq[m] = r1 at *
          generalize yq[m] = r2 at *
          clear hxl hyl
          subst a1 a2
          go_upto_region 11 with fail
          by_cases g : r1 = r2
          case neg =>
            have g' := beqF g
            have HN := Lib.hid (show ¬ (xs = ys ∧ xq = yq) from fun e => g (by have h1 := HX.out; have h2 := HY.out; rw [e.2, h2] at h1; cases h1; rfl))
            clear g
            go_quiet (fail)
            go_wp2
            go_ret
            exact ⟨false, rfl, ⟨fun h => (by cases h), fun h => absurd h HN.out⟩, (HK2.out.drewN _).1⟩
          have g' := beqT g
          have HN := Lib.hid g
          clear g
          go_quiet (fail)
          go_wp2
          go_roundw
          case rel =>
            refine ⟨m + 1, by omega, by go_num, HK2.out.drewN _, fun j hj => ?_⟩
            by_cases hjk : j = m
            · subst hjk; rw [HX.out, HY.out, HN.out]
            · exact HOK.out j (by omega)
          case measure => simp [intOf]; omega
        · have hlt' : ¬ (m : Int) < (qn : Int) := by omega
          have HQQ := Lib.hid (show xq = yq by
            have l1 := HQ.out.len
            have l2 := HP.out.len
            simp only at l1 l2
            apply List.ext_getElem?
            intro j
            by_cases hj : j < m
            · exact HOK.out j hj
            · rw [List.getElem?_eq_none (by omega), List.getElem?_eq_none (by omega)])
          clear HOK hm hlt
          go_wp2
          go_ret
          exact .inr ⟨rfl, ⟨HSS.out, HQQ.out⟩, HK2.out.1⟩

theorem ldThing_any (x y : T8) (s q t p : Sl) (w : World) (hs : HasR w s x.slots) (hq : HasQ w q x.queue) (ht : HasR w t y.slots) (hp : HasQ w p y.queue) (hz : x.slots.length ≤ 1048576) (hzq : x.queue.length ≤ 1048576) :
    Calls Tryz.prog 24 #[x.val s q, y.val t p] w (LdPost (x = y) w) := by
  obtain ⟨sa, sn, sc⟩ := s
  obtain ⟨qa, qn, qc⟩ := q
  obtain ⟨ta, tn, tc⟩ := t
  obtain ⟨pa, pn, pc⟩ := p
  obtain ⟨ka, sb, vb, ra, na, xs, xq, tb⟩ := x
  obtain ⟨ka', sb', vb', ra', na', ys, yq, tb'⟩ := y
  have l1 : sn = xs.length := hs.len
  have l2 : tn = ys.length := ht.len
  have l3 : qn = xq.length := hq.len
  have l4 : pn = yq.length := hp.len
  simp only at hz hzq
  by_cases g0 : ka = ka'
  case neg => exact (ldThing_no0 ka sb vb ra na tb ka' sb' vb' ra' na' tb' sa ta qa pa sn tn qn pn sc tc qc pc w g0 (beqF g0) (by simpa using g0)).mono fun e w' h => ⟨false, h.1, ⟨fun h => (by cases h), fun e => absurd (by injection e) g0⟩, h.2⟩
  subst g0
  by_cases g1 : sb = sb'
  case neg => exact (ldThing_no1 ka sb vb ra na tb ka sb' vb' ra' na' tb' sa ta qa pa sn tn qn pn sc tc qc pc w g1 (beqF g1) (by simpa using g1)).mono fun e w' h => ⟨false, h.1, ⟨fun h => (by cases h), fun e => absurd (by injection e) g1⟩, h.2⟩
  subst g1
  by_cases g2 : vb = vb'
  case neg => exact (ldThing_no2 ka sb vb ra na tb ka sb vb' ra' na' tb' sa ta qa pa sn tn qn pn sc tc qc pc w g2 (beqF g2) (by simpa using g2)).mono fun e w' h => ⟨false, h.1, ⟨fun h => (by cases h), fun e => absurd (by injection e) g2⟩, h.2⟩
  subst g2
  by_cases g3 : ra = ra'
  case neg => exact (ldThing_no3 ka sb vb ra na tb ka sb vb ra' na' tb' sa ta qa pa sn tn qn pn sc tc qc pc w g3 (beqF g3) (by simpa using g3)).mono fun e w' h => ⟨false, h.1, ⟨fun h => (by cases h), fun e => absurd (by injection e) g3⟩, h.2⟩
  subst g3
  by_cases g4 : na = na'
  case neg => exact (ldThing_no4 ka sb vb ra na tb ka sb vb ra na' tb' sa ta qa pa sn tn qn pn sc tc qc pc w g4 (beqF g4) (by simpa using g4)).mono fun e w' h => ⟨false, h.1, ⟨fun h => (by cases h), fun e => absurd (by injection e) g4⟩, h.2⟩
  subst g4
  by_cases g5 : tb = tb'
  case neg => exact (ldThing_no5 ka sb vb ra na tb ka sb vb ra na tb' sa ta qa pa sn tn qn pn sc tc qc pc w g5 (beqF g5) (by simpa using g5)).mono fun e w' h => ⟨false, h.1, ⟨fun h => (by cases h), fun e => absurd (by injection e) g5⟩, h.2⟩
  subst g5
  by_cases g6 : sn = tn
  case neg => exact (ldThing_no6 ka sb vb ra na tb ka sb vb ra na tb sa ta qa pa sn tn qn pn sc tc qc pc w g6 (by simp; omega) (by simp; omega)).mono fun e w' h => ⟨false, h.1, ⟨fun h => (by cases h), fun e => absurd (by injection e with _ _ _ _ _ e1; rw [l1, l2, e1]) g6⟩, h.2⟩
  subst g6
  by_cases g7 : qn = pn
  case neg => exact (ldThing_no7 ka sb vb ra na tb ka sb vb ra na tb sa ta qa pa sn sn qn pn sc tc qc pc w g7 (by simp; omega) (by simp; omega)).mono fun e w' h => ⟨false, h.1, ⟨fun h => (by cases h), fun e => absurd (by injection e with _ _ _ _ _ _ e1; rw [l3, l4, e1]) g7⟩, h.2⟩
  subst g7
  refine (ldThing_deep ka sb vb ra na tb xs ys xq yq sa ta qa pa sn qn sc tc qc pc w hs hq ht hp (by omega) (by omega)).mono fun e w' h => ?_
  obtain ⟨u, h1, h2, h3⟩ := h
  exact ⟨u, h1, by rw [h2]; simp, h3⟩
end Go.Proofs.YtgpiclngkmjnpaaGreatDoor

namespace Go.Proofs.YtgpiclngkmjnpaaGreatDoor
open Go.RowKit
set_option maxRecDepth 100000
set_option linter.unusedVariables false

theorem ldThing_same (x : T8) (s q t p : Sl) (w : World) (hs : HasR w s x.slots) (hq : HasQ w q x.queue) (ht : HasR w t x.slots) (hp : HasQ w p x.queue) (hz : x.slots.length ≤ 1048576) (hzq : x.queue.length ≤ 1048576) :
    Calls Tryz.prog 24 #[x.val s q, x.val t p] w fun e w' => e = .returned (.bool true) ∧ Below w.heap.size w w' :=
  (ldThing_any x x s q t p w hs hq ht hp hz hzq).mono fun e' w' ⟨v, h1, h2, h3⟩ => by
    obtain rfl := h2.2 rfl
    exact ⟨h1, h3⟩
set_option maxRecDepth 100000 in
set_option maxHeartbeats 2000000 in
theorem ldTable_ne (l : List T8) (b o c b2 o2 c2 : Nat) (w : World) (h1 : Tb w b o l) (h2 : Tb w b2 o2 l) (hz : l.length ≤ 1048576) (hzs : ∀ i (h : i < l.length), l[i].slots.length ≤ 1048576 ∧ l[i].queue.length ≤ 1048576) :
    Calls Tryz.prog 18 #[.slice (some ⟨b, o, none⟩) l.length c, .slice (some ⟨b2, o2, none⟩) l.length c2] w fun e w' => e = .returned (.bool true) ∧ Below w.heap.size w w' := by
  have H1 := Lib.hid h1
  have H2 := Lib.hid h2
  have HZ := Lib.hid hzs
  clear h1 h2 hzs
  go_enter Tryz.func18, Tryz.ntmps18
  go_wp2
  go_loopw [5] (fun i wr => ∃ k : Nat, k ≤ l.length ∧ i = .int .i64 k ∧ Below w.heap.size w wr) (fun i _ => l.length - (intOf i).toNat)
  case atStart => exact ⟨0, by omega, rfl, Below.refl _ _⟩
  case round =>
    obtain ⟨k, hk, rfl, B0⟩ := hrel
    have HB := Lib.hid B0
    clear B0
    by_cases hlt : k < l.length
    · have hlt' : (k : Int) < (l.length : Int) := by omega
      obtain ⟨ss, qs, hR, hQ, hA⟩ := (H1.out.stay HB.out) k hlt
      obtain ⟨ss2, qs2, hR2, hQ2, hA2⟩ := (H2.out.stay HB.out) k hlt
      have c0 : wr.cell? ⟨b, o + k * 8, none⟩ = some (.int .i64 (l[k]).kind) := hA 0 _ rfl
      have c1 : wr.cell? ⟨b, o + k * 8 + 1, none⟩ = some (.int .i64 (l[k]).sec) := hA 1 _ rfl
      have c2 : wr.cell? ⟨b, o + k * 8 + 2, none⟩ = some (.int .i64 (l[k]).vou) := hA 2 _ rfl
      have c3 : wr.cell? ⟨b, o + k * 8 + 3, none⟩ = some (.int .i64 (l[k]).vers) := hA 3 _ rfl
      have c4 : wr.cell? ⟨b, o + k * 8 + 4, none⟩ = some (.int .i64 (l[k]).num) := hA 4 _ rfl
      have c5 : wr.cell? ⟨b, o + k * 8 + 5, none⟩ = some (.slice ss.a ss.n ss.c) := hA 5 _ rfl
      have c6 : wr.cell? ⟨b, o + k * 8 + 6, none⟩ = some (.slice qs.a qs.n qs.c) := hA 6 _ rfl
      have c7 : wr.cell? ⟨b, o + k * 8 + 7, none⟩ = some (.int .i64 (l[k]).to) := hA 7 _ rfl
      have d0 : wr.cell? ⟨b2, o2 + k * 8, none⟩ = some (.int .i64 (l[k]).kind) := hA2 0 _ rfl
      have d1 : wr.cell? ⟨b2, o2 + k * 8 + 1, none⟩ = some (.int .i64 (l[k]).sec) := hA2 1 _ rfl
      have d2 : wr.cell? ⟨b2, o2 + k * 8 + 2, none⟩ = some (.int .i64 (l[k]).vou) := hA2 2 _ rfl
      have d3 : wr.cell? ⟨b2, o2 + k * 8 + 3, none⟩ = some (.int .i64 (l[k]).vers) := hA2 3 _ rfl
      have d4 : wr.cell? ⟨b2, o2 + k * 8 + 4, none⟩ = some (.int .i64 (l[k]).num) := hA2 4 _ rfl
      have d5 : wr.cell? ⟨b2, o2 + k * 8 + 5, none⟩ = some (.slice ss2.a ss2.n ss2.c) := hA2 5 _ rfl
      have d6 : wr.cell? ⟨b2, o2 + k * 8 + 6, none⟩ = some (.slice qs2.a qs2.n qs2.c) := hA2 6 _ rfl
      have d7 : wr.cell? ⟨b2, o2 + k * 8 + 7, none⟩ = some (.int .i64 (l[k]).to) := hA2 7 _ rfl
      have HR := Lib.hid hR
      have HQ := Lib.hid hQ
      have HR2 := Lib.hid hR2
      have HQ2 := Lib.hid hQ2
      clear hR hQ hR2 hQ2 hA hA2
      have cc0 := fun zz : Wd (Kn wr []) => stayCell c0 zz.ok.1
      have cc1 := fun zz : Wd (Kn wr []) => stayCell c1 zz.ok.1
      have cc2 := fun zz : Wd (Kn wr []) => stayCell c2 zz.ok.1
      have cc3 := fun zz : Wd (Kn wr []) => stayCell c3 zz.ok.1
      have cc4 := fun zz : Wd (Kn wr []) => stayCell c4 zz.ok.1
      have cc5 := fun zz : Wd (Kn wr []) => stayCell c5 zz.ok.1
      have cc6 := fun zz : Wd (Kn wr []) => stayCell c6 zz.ok.1
      have cc7 := fun zz : Wd (Kn wr []) => stayCell c7 zz.ok.1
      have dd0 := fun zz : Wd (Kn wr []) => stayCell d0 zz.ok.1
      have dd1 := fun zz : Wd (Kn wr []) => stayCell d1 zz.ok.1
      have dd2 := fun zz : Wd (Kn wr []) => stayCell d2 zz.ok.1
      have dd3 := fun zz : Wd (Kn wr []) => stayCell d3 zz.ok.1
      have dd4 := fun zz : Wd (Kn wr []) => stayCell d4 zz.ok.1
      have dd5 := fun zz : Wd (Kn wr []) => stayCell d5 zz.ok.1
      have dd6 := fun zz : Wd (Kn wr []) => stayCell d6 zz.ok.1
      have dd7 := fun zz : Wd (Kn wr []) => stayCell d7 zz.ok.1
      have ne : Nonempty (Wd (Kn wr [])) := ⟨⟨_, (Kn.refl (w := wr)).drew⟩⟩
      have HE := Lib.hid (fun zz : Wd (Kn wr []) => ldThing_same l[k] ss qs ss2 qs2 zz.w (HR.out.stay zz.ok.1) (HQ.out.stay zz.ok.1) (HR2.out.stay zz.ok.1) (HQ2.out.stay zz.ok.1) (HZ.out k hlt).1 (HZ.out k hlt).2)
      clear c0 d0 c1 d1 c2 d2 c3 d3 c4 d4 c5 d5 c6 d6 c7 d7 HR HQ HR2 HQ2
      go_upto_region 6 with fail
      refine wp_region_quiet (C := fun y => ∃ zz : Wd (Kn wr []), y = zz.w) (by kernel_rfl) (by kernel_rfl) ⟨⟨_, (Kn.refl (w := wr)).drew⟩, rfl⟩ ?_
      show wpQuiet _ _ _ _ [_, _, _, _, _, _, _, _, _, _] _
      repeat (first | go_big_quiet_step ((go_at_call 24; with_reducible exact inCls Kn.stay (HE.out _))) | quiet_step ((go_at_call 24; with_reducible exact inCls Kn.stay (HE.out _))))
      refine wpQuiet_nil ?_
      rintro _ ⟨⟨y, K2⟩, rfl⟩
      have HB2 := Lib.hid (HB.out.trans (K2.1.mono HB.out.size))
      clear ne cc0 dd0 cc1 dd1 cc2 dd2 cc3 dd3 cc4 dd4 cc5 dd5 cc6 dd6 cc7 dd7 K2 HE
      go_wp2
      go_roundw
      case rel => exact ⟨k + 1, by omega, by go_num, HB2.out⟩
      case measure => simp [intOf]; omega
    · have hlt' : ¬ (k : Int) < (l.length : Int) := by omega
      go_wp2
      go_ret
      exact ⟨rfl, HB.out⟩
set_option maxHeartbeats 1000000 in
theorem ldTable_nil (a : Option Addr) (c : Nat) (a2 : Option Addr) (c2 : Nat) (w : World) :
    Calls Tryz.prog 18 #[.slice a 0 c, .slice a2 0 c2] w fun e w' => e = .returned (.bool true) ∧ Below w.heap.size w w' := by
  go_enter Tryz.func18, Tryz.ntmps18
  go_wp2
  go_loop [5] (fun i => i = .int .i64 0) (fun _ => 0)
  case atStart => rfl
  case round =>
    subst hrel
    go_wp2
    go_ret
    exact ⟨rfl, Below.refl _ _⟩
theorem ldTable_same (l : List T8) (s s2 : Sl) (w : World) (h : HasT w s l) (h2 : HasT w s2 l) (hz : l.length ≤ 1048576) (hzs : ∀ i (h : i < l.length), l[i].slots.length ≤ 1048576 ∧ l[i].queue.length ≤ 1048576) :
    Calls Tryz.prog 18 #[.slice s.a s.n s.c, .slice s2.a s2.n s2.c] w fun e w' => e = .returned (.bool true) ∧ Below w.heap.size w w' := by
  obtain ⟨a1, a2, a3⟩ := h
  obtain ⟨b1, b2, b3⟩ := h2
  rw [a1, b1]
  by_cases hl : l = []
  · subst hl
    exact ldTable_nil _ _ _ _ w
  · rcases a3 with a3 | ⟨b, o, e, a3⟩
    · exact absurd a3 hl
    rcases b3 with b3 | ⟨b', o', e', b3⟩
    · exact absurd b3 hl
    rw [e, e']
    exact ldTable_ne l b o s.c b' o' s2.c w a3 b3 hz hzs

set_option maxHeartbeats 8000000 in
theorem ldCan_any (l : List T8) (g n c : Nat) (q : C5) (w : World) (ht : HasT w ⟨some ⟨g, 0, none⟩, n, c⟩ l) (hn : l.length = n) (hf : KF w) (hz : n ≤ 1048576) :
    Calls Tryz.prog 19 #[.slice (some ⟨g, 0, none⟩) n c, .agg #[.int .i64 q.k, .int .i64 q.r, .int .i64 q.a, .int .i64 q.b, .int .i64 q.n]] w (LdPost (OkC l q) w) := by
  have HK0 := Lib.hid ((Kn.refl (w := w)).new 25 (C5.cs q))
  have HT := Lib.hid ht
  have HF := Lib.hid hf
  have HN := Lib.hid hn
  have hl : l.length ≤ 1048576 := by omega
  have HL := Lib.hid hl
  clear ht hf hn hl
  obtain ⟨b1, hb1⟩ : ∃ b1, tabOk l = b1 := ⟨_, rfl⟩
  have HB1 := Lib.hid hb1
  clear hb1
  unfold LdPost
  go_enter Tryz.func19, Tryz.ntmps19
  go_wp2_with fail
  refine (implTabOk_val (s := ⟨some ⟨g, 0, none⟩, n, c⟩) HB1.out _ (HT.out.stay HK0.out.1) (HF.out.stay HK0.out.1) HL.out).mono ?_
  rintro e y1 ⟨rfl, hb⟩
  have HK1 := Lib.hid (HK0.out.stay hb)
  clear hb HK0
  cases b1
  · go_wp2
    go_ret
    exact ⟨false, rfl, ⟨fun h => (by cases h), fun h => by have := h.tab; rw [HB1.out] at this; cases this⟩, HK1.out.1⟩
  obtain ⟨b2, hb2⟩ : ∃ b2, q.ok = b2 := ⟨_, rfl⟩
  have HB2 := Lib.hid hb2
  clear hb2
  have c0 := HK1.out.c (b := w.heap.size) (T := 25) (vs := C5.cs q) (by simp) 0 _ rfl
  have c1 := HK1.out.c (b := w.heap.size) (T := 25) (vs := C5.cs q) (by simp) 1 _ rfl
  have c2 := HK1.out.c (b := w.heap.size) (T := 25) (vs := C5.cs q) (by simp) 2 _ rfl
  have c3 := HK1.out.c (b := w.heap.size) (T := 25) (vs := C5.cs q) (by simp) 3 _ rfl
  have c4 := HK1.out.c (b := w.heap.size) (T := 25) (vs := C5.cs q) (by simp) 4 _ rfl
  go_wp2_with fail
  refine (implCallOk_val HB2.out _).mono ?_
  rintro e y2 ⟨rfl, hb⟩
  have HK2 := Lib.hid (HK1.out.stay hb)
  clear hb HK1 c0 c1 c2 c3 c4
  cases b2
  · go_wp2
    go_ret
    exact ⟨false, rfl, ⟨fun h => (by cases h), fun h => by have := h.2; rw [HB2.out] at this; cases this⟩, HK2.out.1⟩
  have c1 := HK2.out.c (b := w.heap.size) (T := 25) (vs := C5.cs q) (by simp) 1 _ rfl
  have hbd := (C5.bd HB2.out).2.1
  by_cases hrl : (n : Int) < q.r
  · have NO := Lib.hid (show ¬ OkC l q from fun h => by
      obtain ⟨jr, hjr, hcr, -⟩ := h.run
      have := HN.out
      omega)
    go_wp2
    go_ret
    exact .inl ⟨rfl, NO.out, HK2.out.1⟩
  obtain ⟨jr, hjr⟩ : ∃ j : Nat, q.r - 1 = j := ⟨(q.r - 1).toNat, by omega⟩
  obtain ⟨ck, cr, ca, cbb, cn⟩ := q
  dsimp only at *
  obtain rfl : cr = (jr : Int) + 1 := by omega
  have hjN : jr < n := by omega
  have hjl : (jr : Int) < (n : Int) := by omega
  have HJ := Lib.hid (show jr < l.length by rw [HN.out]; exact hjN)
  have wj1 : wrap64 ((jr : Int) + 1 - 1) = (jr : Int) := by unfold wrap64; omega
  have d0 : y2.cell? ⟨g, jr * 8, none⟩ = some (.int .i64 (l[jr]'HJ.out).kind) := by
    obtain ⟨b, o, e, h⟩ := (HT.out.stay HK2.out.1).ne HJ.out
    simp only [Option.some.injEq, Addr.mk.injEq] at e
    obtain ⟨rfl, rfl, -⟩ := e
    obtain ⟨ss, qs, -, -, hA⟩ := h jr HJ.out
    have := hA 0 _ rfl
    simpa using this
  obtain ⟨kd, hkd⟩ : ∃ kd, (l[jr]'HJ.out).kind = kd := ⟨_, rfl⟩
  rw [hkd] at d0
  have HKD := Lib.hid hkd
  clear hkd hjr
  have EQ := Lib.hid (show OkC l ⟨ck, (jr : Int) + 1, ca, cbb, cn⟩ ↔ kd = 3 from ⟨fun h => by rw [← HKD.out]; exact (run_at h HJ.out rfl).2, fun h => by
    refine ⟨?_, HB2.out⟩
    have h1 : inR ((jr : Int) + 1) 1 l.length = true := by have := HJ.out; simp [inR]; omega
    rw [HB1.out, Bool.true_and, isRun, h1, thAt_of HJ.out (show (jr : Int) + 1 - 1 = jr by omega), HKD.out, h]; rfl⟩)
  by_cases hk3 : kd = 3
  · subst hk3
    go_wp2
    go_ret
    exact .inr ⟨rfl, EQ.out.2 (by simp), HK2.out.1⟩
  · have hk3' : (kd == 3) = false := by simpa using hk3
    have HK3 := Lib.hid hk3
    clear hk3
    go_wp2
    go_ret
    exact .inl ⟨rfl, fun h => HK3.out (EQ.out.1 h), HK2.out.1⟩
end Go.Proofs.YtgpiclngkmjnpaaGreatDoor

namespace Go.Proofs.YtgpiclngkmjnpaaGreatDoor
open Go.RowKit
set_option maxRecDepth 100000
set_option linter.unusedVariables false

abbrev putC (W : World) (b : Nat) (q : C5) : World := ((((W.setCell ⟨b, 0, none⟩ (.int .i64 q.k)).setCell ⟨b, 1, none⟩ (.int .i64 q.r)).setCell ⟨b, 2, none⟩ (.int .i64 q.a)).setCell ⟨b, 3, none⟩ (.int .i64 q.b)).setCell ⟨b, 4, none⟩ (.int .i64 q.n)
theorem put_all {W : World} {b : Nat} (h : Box W b 25 #[.int .i64 0, .int .i64 0, .int .i64 0, .int .i64 0, .int .i64 0]) (q : C5) : Box (putC W b q) b 25 (C5.cs q) := by
  have bF := ((((h.put 0 (.int .i64 q.k)).put 1 (.int .i64 q.r)).put 2 (.int .i64 q.a)).put 3 (.int .i64 q.b)).put 4 (.int .i64 q.n)
  simpa using bF
theorem TaO.row {n0 : Nat} {W : World} {v : Value} {ts : List Tr} {b : Nat} {q : C5} (h : TaO n0 W v ts) (hb : b < n0) : TaO n0 (putC W b q) v ts :=
  h.keep fun b' T' cs hb' bx' _ => by
    have n1 : b' ≠ b := by omega
    exact ((((bx'.other n1 _).other n1 _).other n1 _).other n1 _).other n1 _
theorem ck_fin {n0 : Nat} {w W : World} {g c N b : Nat} {q : C5} {ts : List Tr} (hN : ts.length = N) (h3 : 3 ≤ N) (h8 : N ≤ 8) (hb : w.heap.size ≤ b) (hT : TaO n0 (putC W b q) (.slice (some ⟨g, 0, none⟩) N c) ts) (hw : Below w.heap.size w W) : CkPost w (.returned (.tuple #[.slice (some ⟨g, 0, none⟩) N c, .agg #[.int .i64 q.k, .int .i64 q.r, .int .i64 q.a, .int .i64 q.b, .int .i64 q.n]])) (putC W b q) := by
  have h := TaO.hasT (s := ⟨some ⟨g, 0, none⟩, N, c⟩) hT
  refine ⟨g, c, ts.map (·.1), q, by simp [hN], ?_, by simp [hN]; omega, by simp [hN]; omega, hT.sizes, ?_⟩
  · simp only [List.length_map, hN]; exact h
  · exact ((((hw.setCell (p := ⟨b, 0, none⟩) hb _).setCell (p := ⟨b, 1, none⟩) hb _).setCell (p := ⟨b, 2, none⟩) hb _).setCell (p := ⟨b, 3, none⟩) hb _).setCell (p := ⟨b, 4, none⟩) hb _
theorem CkPost.drew {w V : World} {e : Ending} (h : CkPost w e V) : CkPost w e V.drew := by
  obtain ⟨g, c, l, q, h1, h2, h3, h4, h5, h6⟩ := h
  exact ⟨g, c, l, q, h1, h2.stay ((Below.refl _ _).drew), h3, h4, h5, h6.drew⟩
set_option maxHeartbeats 8000000 in
theorem drawCD_any (a : Option Addr) (len cap : Nat) (zs : List Int) (w : World) (h : IsRow .u8 w a len cap zs) :
    Calls Tryz.prog 15 #[.slice a len cap] w (CkPost w) := by
  have K0 := (Kn.refl (w := w)).new 25 #[.int .i64 0, .int .i64 0, .int .i64 0, .int .i64 0, .int .i64 0]
  have H := Lib.hid (h.below K0.1)
  have HK := Lib.hid K0
  clear h K0
  go_enter Tryz.func15, Tryz.ntmps15
  go_wp2_with fail
  refine (l6Open_any a len cap zs _ H.out).mono ?_
  rintro e w1' ⟨rfl, rfl⟩
  have hR0 := rd_open H.out
  obtain ⟨w1, hw1⟩ : ∃ w1, (w.alloc (.cells #[.int .i64 0, .int .i64 0, .int .i64 0, .int .i64 0, .int .i64 0] 25)).alloc (.cells #[.slice a (min len 2000) cap, .int .i64 0] 97) = w1 := ⟨_, rfl⟩
  have hs1 : (w.alloc (.cells #[.int .i64 0, .int .i64 0, .int .i64 0, .int .i64 0, .int .i64 0] 25)).heap.size = w.heap.size + 1 := by simp
  rw [hs1, hw1] at hR0
  have hz1 : w1.heap.size = w.heap.size + 2 := by rw [← hw1]; simp
  have hb1 := (HK.out.past (.cells #[.slice a (min len 2000) cap, .int .i64 0] 97))
  rw [hw1] at hb1
  have HB1 := Lib.hid hb1.1
  have BR0 := Lib.hid (hb1.box (b := w.heap.size) (T := 25) (vs := #[.int .i64 0, .int .i64 0, .int .i64 0, .int .i64 0, .int .i64 0]) (by simp))
  have S0 := Lib.hid (St.start hR0)
  clear hR0 hb1
  go_wp2_with fail
  refine (l71Fine_any _ a _ cap zs 0 _ S0.out.2.1 (by omega)).mono ?_
  rintro e y ⟨g, c, ts, rfl, tO, t3, t8, p1, hp1, r1, g1⟩
  have S1 := Lib.hid (S0.out.on g1 r1)
  have T1 := Lib.hid tO
  clear tO r1 g1 S0
  obtain ⟨N, hN⟩ : ∃ N, ts.length = N := ⟨_, rfl⟩
  rw [hN] at T1 t3 t8 ⊢
  have HN := Lib.hid hN
  clear hN
  go_wp2_with fail
  refine (l71Call_any _ a _ cap zs p1 _ S1.out.2.1 (by omega) w1.heap.size g c N ts T1.out (by omega) S1.out.1.1.size HN.out t3 t8).mono ?_
  rintro e y2 ⟨q, rfl, p2, hp2, r2, g2⟩
  have S2 := Lib.hid (S1.out.on g2 r2)
  have T2 := Lib.hid (T1.out.grew (by omega) g2)
  clear r2 g2 S1 T1
  have BRR := Lib.hid (BR0.out.grew S2.out.1.1 (by omega))
  obtain ⟨W6, hW6⟩ : ∃ W6, y2.alloc (.cells (C5.cs q) 25) = W6 := ⟨_, rfl⟩
  have s6 := S2.out.new 25 (C5.cs q)
  have t6 := T2.out.stay ((Below.refl _ _).alloc (Nat.le_refl _) (.cells (C5.cs q) 25))
  rw [hW6] at s6 t6
  have hx5 : w1.heap.size ≤ y2.heap.size := S2.out.1.1.size
  obtain ⟨cb, hcb⟩ : ∃ cb, y2.heap.size = cb := ⟨_, rfl⟩
  rw [hcb] at s6 hx5
  have S6 := Lib.hid s6
  have T6 := Lib.hid t6
  clear s6 t6 S2 T2 BRR
  go_wp2
  go_loopw [7] (fun i wr => ∃ (k p' : Nat) (q : C5), i = .int .i64 k ∧ k ≤ 4 ∧ p' ≤ 30000 + 110 * k ∧ St w1 (w.heap.size + 1) a (min len 2000) cap zs p' [(cb, 25, C5.cs q)] wr ∧ TaO w1.heap.size wr (.slice (some ⟨g, 0, none⟩) N c) ts) (fun i _ => 4 - (intOf i).toNat)
  case atStart => exact ⟨0, p2, q, rfl, by omega, by omega, S6.out, T6.out⟩
  case round =>
    clear S6 T6 hW6 hp2
    obtain ⟨k, pk, q, rfl, hk, hpk, sK, tK⟩ := hrel
    have SK := Lib.hid sK
    have TK := Lib.hid tK
    clear sK tK
    by_cases hlt : ¬ k < 4
    · have hlt' : ¬ (k : Int) < 4 := by omega
      have LB := SK.out.1.box (b := cb) (T := 25) (vs := C5.cs q) (by simp)
      have k0 := LB.cell 0 _ rfl
      have k1 := LB.cell 1 _ rfl
      have k2 := LB.cell 2 _ rfl
      have k3 := LB.cell 3 _ rfl
      have k4 := LB.cell 4 _ rfl
      have RB := BR0.out.grew SK.out.1.1 (by omega)
      have j0 := RB.cell 0 _ rfl
      have j1 := RB.cell 1 _ rfl
      have j2 := RB.cell 2 _ rfl
      have j3 := RB.cell 3 _ rfl
      have j4 := RB.cell 4 _ rfl
      have f0 := RB.thaw 0
      have f1 := RB.thaw 1
      have f2 := RB.thaw 2
      have f3 := RB.thaw 3
      have f4 := RB.thaw 4
      have RBH := Lib.hid RB
      clear LB RB
      go_wp2_with fail
      go_region
      all_goals
        go_wp2
        refine bodyPost_ret (results_tmp_rowC Tryz.results15 _ _ w.heap.size 25 (C5.cs q) _ rfl (put_all RBH.out q).drew Tryz.underlying25 rfl infoC) rfl ?_
        exact (ck_fin (g := g) (c := c) HN.out t3 t8 (by omega) (TaO.row TK.out (by omega)) (HB1.out.trans (SK.out.1.1.below (by omega) (by omega)))).drew
    have hlt' : (k : Int) < 4 := by omega
    go_wp2_with fail
    refine (pick_any _ a _ cap zs pk 4 _ SK.out.2.1 (by omega) (by decide) (by decide)).mono ?_
    rintro e w4 ⟨m1, m1a, m1b, rfl, rr, gg, -⟩
    have SA := Lib.hid (SK.out.on gg rr)
    have TA := Lib.hid (TK.out.grew (by omega) gg)
    clear rr gg SK TK
    by_cases hm : ¬ 0 < m1
    · have LB := SA.out.1.box (b := cb) (T := 25) (vs := C5.cs q) (by simp)
      have k0 := LB.cell 0 _ rfl
      have k1 := LB.cell 1 _ rfl
      have k2 := LB.cell 2 _ rfl
      have k3 := LB.cell 3 _ rfl
      have k4 := LB.cell 4 _ rfl
      have RB := BR0.out.grew SA.out.1.1 (by omega)
      have j0 := RB.cell 0 _ rfl
      have j1 := RB.cell 1 _ rfl
      have j2 := RB.cell 2 _ rfl
      have j3 := RB.cell 3 _ rfl
      have j4 := RB.cell 4 _ rfl
      have f0 := RB.thaw 0
      have f1 := RB.thaw 1
      have f2 := RB.thaw 2
      have f3 := RB.thaw 3
      have f4 := RB.thaw 4
      have RBH := Lib.hid RB
      clear LB RB
      go_wp2_with fail
      go_region
      all_goals
        go_wp2
        refine bodyPost_ret (results_tmp_rowC Tryz.results15 _ _ w.heap.size 25 (C5.cs q) _ rfl (put_all RBH.out q).drew Tryz.underlying25 rfl infoC) rfl ?_
        exact (ck_fin (g := g) (c := c) HN.out t3 t8 (by omega) (TaO.row TA.out (by omega)) (HB1.out.trans (SA.out.1.1.below (by omega) (by omega)))).drew
    have hm' : 0 < m1 := by omega
    clear hm
    have c0 := SA.out.1.c (b := cb) (T := 25) (vs := C5.cs q) (by simp) 0 _ rfl
    have c1 := SA.out.1.c (b := cb) (T := 25) (vs := C5.cs q) (by simp) 1 _ rfl
    have c2 := SA.out.1.c (b := cb) (T := 25) (vs := C5.cs q) (by simp) 2 _ rfl
    have c3 := SA.out.1.c (b := cb) (T := 25) (vs := C5.cs q) (by simp) 3 _ rfl
    have c4 := SA.out.1.c (b := cb) (T := 25) (vs := C5.cs q) (by simp) 4 _ rfl
    obtain ⟨v, hv⟩ : ∃ v, chkV (ts.map (fun t : Tr => t.1)) q = v := ⟨_, rfl⟩
    have HV := Lib.hid hv
    clear hv
    have HCHK := Lib.hid (fun (y : World) (ht : TaO w1.heap.size y (.slice (some ⟨g, 0, none⟩) N c) ts) => by
      have h := specCheck_val (s := ⟨some ⟨g, 0, none⟩, N, c⟩) HV.out y (TaO.hasT (s := ⟨some ⟨g, 0, none⟩, N, c⟩) ht) (by simp [HN.out]; omega) ht.sizes
      exact h)
    go_wp2_with fail
    refine (HCHK.out _ TA.out).mono ?_
    rintro e y5 ⟨rfl, hb⟩
    have SB := Lib.hid (SA.out.stay hb)
    have TB := Lib.hid (TA.out.stay hb)
    clear hb SA TA c0 c1 c2 c3 c4
    by_cases hneg : ¬ v < 0
    · have LB := SB.out.1.box (b := cb) (T := 25) (vs := C5.cs q) (by simp)
      have k0 := LB.cell 0 _ rfl
      have k1 := LB.cell 1 _ rfl
      have k2 := LB.cell 2 _ rfl
      have k3 := LB.cell 3 _ rfl
      have k4 := LB.cell 4 _ rfl
      have RB := BR0.out.grew SB.out.1.1 (by omega)
      have j0 := RB.cell 0 _ rfl
      have j1 := RB.cell 1 _ rfl
      have j2 := RB.cell 2 _ rfl
      have j3 := RB.cell 3 _ rfl
      have j4 := RB.cell 4 _ rfl
      have f0 := RB.thaw 0
      have f1 := RB.thaw 1
      have f2 := RB.thaw 2
      have f3 := RB.thaw 3
      have f4 := RB.thaw 4
      have RBH := Lib.hid RB
      clear LB RB
      go_wp2_with fail
      go_region
      all_goals
        go_wp2
        refine bodyPost_ret (results_tmp_rowC Tryz.results15 _ _ w.heap.size 25 (C5.cs q) _ rfl (put_all RBH.out q).drew Tryz.underlying25 rfl infoC) rfl ?_
        exact (ck_fin (g := g) (c := c) HN.out t3 t8 (by omega) (TaO.row TB.out (by omega)) (HB1.out.trans (SB.out.1.1.below (by omega) (by omega)))).drew
    have hneg' : v < 0 := by omega
    clear hneg
    go_wp2_with fail
    refine (l71Call_any _ a _ cap zs (pk + 1) _ SB.out.2.1 (by omega) w1.heap.size g c N ts TB.out (by omega) SB.out.1.1.size HN.out t3 t8).mono ?_
    rintro e y6 ⟨q2, rfl, p3, hp3, r2, g2⟩
    have SC := Lib.hid (SB.out.on g2 r2)
    have TC := Lib.hid (TB.out.grew (by omega) g2)
    clear r2 g2 SB TB
    have bR := SC.out.1.box (b := cb) (T := 25) (vs := C5.cs q) (by simp)
    have k0 := bR.cell 0 _ rfl
    have k1 := bR.cell 1 _ rfl
    have k2 := bR.cell 2 _ rfl
    have k3 := bR.cell 3 _ rfl
    have k4 := bR.cell 4 _ rfl
    have f0 := bR.thaw 0
    have f1 := bR.thaw 1
    have f2 := bR.thaw 2
    have f3 := bR.thaw 3
    have f4 := bR.thaw 4
    have SD := Lib.hid (show St w1 (w.heap.size + 1) a (min len 2000) cap zs p3 [(cb, 25, C5.cs q2)] (((((y6.setCell ⟨cb, 0, none⟩ (.int .i64 q2.k)).setCell ⟨cb, 1, none⟩ (.int .i64 q2.r)).setCell ⟨cb, 2, none⟩ (.int .i64 q2.a)).setCell ⟨cb, 3, none⟩ (.int .i64 q2.b)).setCell ⟨cb, 4, none⟩ (.int .i64 q2.n)) by
      have := ((((SC.out.put (by simp) 0 (.int .i64 q2.k)).put (by simp) 1 (.int .i64 q2.r)).put (by simp) 2 (.int .i64 q2.a)).put (by simp) 3 (.int .i64 q2.b)).put (by simp) 4 (.int .i64 q2.n)
      simpa using this)
    have TD := Lib.hid (show TaO w1.heap.size (((((y6.setCell ⟨cb, 0, none⟩ (.int .i64 q2.k)).setCell ⟨cb, 1, none⟩ (.int .i64 q2.r)).setCell ⟨cb, 2, none⟩ (.int .i64 q2.a)).setCell ⟨cb, 3, none⟩ (.int .i64 q2.b)).setCell ⟨cb, 4, none⟩ (.int .i64 q2.n)) (.slice (some ⟨g, 0, none⟩) N c) ts from
      ((((TC.out.call bR _).call (bR.put 0 (.int .i64 q2.k)) _).call ((bR.put 0 (.int .i64 q2.k)).put 1 (.int .i64 q2.r)) _).call (((bR.put 0 (.int .i64 q2.k)).put 1 (.int .i64 q2.r)).put 2 (.int .i64 q2.a)) _).call ((((bR.put 0 (.int .i64 q2.k)).put 1 (.int .i64 q2.r)).put 2 (.int .i64 q2.a)).put 3 (.int .i64 q2.b)) _)
    clear bR SC TC
    go_wp2
    go_roundw
    case rel => exact ⟨k + 1, p3, q2, by go_num, by omega, by omega, SD.out, TD.out⟩
    case measure => simp [intOf]; omega
end Go.Proofs.YtgpiclngkmjnpaaGreatDoor

namespace Go.Proofs.YtgpiclngkmjnpaaGreatDoor
open Go.RowKit
set_option maxRecDepth 100000
set_option linter.unusedVariables false

theorem call_sm {l : List T8} {c : C5} {x : List T8} {a : Int} (h : callV l c = (x, a)) : x.length ≤ 1048576 ∧ ∀ i (hi : i < x.length), x[i].slots.length ≤ 1048576 ∧ x[i].queue.length ≤ 1048576 := by
  by_cases ho : OkC l c
  · rw [callV_ok ho] at h
    have ht := do_tab ho
    have e : (doV l c).1 = x := by rw [h]
    rw [e] at ht
    have := tab_small ht
    exact ⟨by omega, fun i hi => by have := this.2 i hi; omega⟩
  · rw [callV_no ho] at h
    simp only [Prod.mk.injEq] at h
    obtain ⟨rfl, -⟩ := h
    exact ⟨by simp, fun i hi => by simp at hi⟩
/-- Where things lie. -/
theorem HasT.cells {W : World} {g n c : Nat} {l : List T8} (h : HasT W ⟨some ⟨g, 0, none⟩, n, c⟩ l) {i : Nat} (hi : i < l.length) : ∃ ss qs, HasR W ss l[i].slots ∧ HasQ W qs l[i].queue ∧ At W g (i * 8) (l[i].cs ss qs) := by
  obtain ⟨b, o, e, h⟩ := h.ne hi
  simp only [Option.some.injEq, Addr.mk.injEq] at e
  obtain ⟨rfl, rfl, -⟩ := e
  obtain ⟨ss, qs, hS, hQ, hA⟩ := h i hi
  exact ⟨ss, qs, hS, hQ, by simpa using hA⟩
/-- Where a right of a thing lies. -/
theorem slot_get {W : World} {g n c : Nat} {m : List T8} {j k : Nat} (h : HasT W ⟨some ⟨g, 0, none⟩, n, c⟩ m) (hj : j < m.length) (h4 : m[j].slots.length = 4) (hk : k < 4) :
    ∃ rb ro sc, W.cell? ⟨g, j * 8 + 5, none⟩ = some (.slice (some ⟨rb, ro, none⟩) 4 sc) ∧ At W rb (ro + k * 5) (m[j].slots[k]'(by omega)).cs := by
  obtain ⟨ss, qs, hR, -, hA⟩ := h.cells hj
  obtain ⟨rb, ro, e, hB⟩ := hR.at (i := k) (by omega)
  have hn : ss.n = 4 := by rw [hR.len, h4]
  have h5 : W.cell? ⟨g, j * 8 + 5, none⟩ = some (.slice ss.a ss.n ss.c) := hA 5 _ rfl
  rw [e, hn] at h5
  exact ⟨rb, ro, ss.c, h5, hB⟩
/-- The thing that a call is to, where it is not refused. -/
theorem obj_get {l : List T8} {q : C5} {jr : Nat} (h : OkC l q) (h0 : chkV l q = 0) (h3 : q.k ≠ 3) (hj : jr < l.length) (hr : q.r = (jr : Int) + 1) : ∃ jo : Nat, jo < l.length ∧ (rOf l q).t = (jo : Int) + 1 ∧ jo ≠ jr := by
  obtain ⟨jo, hjo, e, -, -⟩ := obj_of h0 h3
  exact ⟨jo, hjo, e, (jo_ne h h0 h3 hj hr hjo e).2.2⟩
theorem get_set_sm {m : List T8} (h : ∀ i (hi : i < m.length), m[i].slots.length ≤ 1048576 ∧ m[i].queue.length ≤ 1048576) {j : Nat} (hj : j < m.length) {y : T8} (e : m[j] = y) : y.slots.length ≤ 1048576 ∧ y.queue.length ≤ 1048576 := by
  subst e; exact h j hj
/-- Where nothing was let through, all but the runner is as it was. -/
theorem do_still {l : List T8} {c : C5} (h : OkC l c) {i : Nat} (hi : i < l.length) (hne : (i : Int) + 1 ≠ c.r) (h0 : chkV l c ≠ 0) : (doV l c).1[i]'(by rw [do_len]; exact hi) = l[i] := by
  have := do_step h i hi
  generalize (doV l c).1[i]'(by rw [do_len]; exact hi) = y at this ⊢
  cases this with
  | same _ => rfl
  | run S e _ _ => exact absurd e hne
  | write _ h' _ _ => exact absurd h' h0
  | store _ h' _ _ => exact absurd h' h0
  | send _ h' _ _ _ => exact absurd h' h0
  | take q qs _ h' _ _ _ => exact absurd h' h0
  | renew _ h' _ _ _ => exact absurd h' h0
  | gate _ h' _ _ => exact absurd h' h0
  | page h' _ _ _ _ => exact absurd h' h0
/-- A call that fetches or stores is to a node. -/
theorem node_of {l : List T8} {q : C5} {jo : Nat} (h : OkC l q) (h0 : chkV l q = 0) (hk : q.k = 4 ∨ q.k = 5) (hj : jo < l.length) (ho : (rOf l q).t = (jo : Int) + 1) : l[jo].slots.length = 4 := by
  have h1 := obj_ok h h0 (by omega)
  rw [thAt_of hj (by omega)] at h1
  have h2 := kind_of h1.2
  have h3 : l[jo].kind = 2 := by rcases hk with hk | hk <;> simpa [kindsOf, hk] using h2
  exact node_slots h1.1 (.inl h3)
theorem run4 {l : List T8} {q : C5} {jr : Nat} (h : OkC l q) (hj : jr < l.length) (hr : q.r = (jr : Int) + 1) : l[jr].slots.length = 4 := node_slots (tab_okT h.tab hj) (.inr (run_at h hj hr).2)
theorem lessR_w (r : R5) : (lessR r true false false).w = false := by simp [lessR]
end Go.Proofs.YtgpiclngkmjnpaaGreatDoor

namespace Go.Proofs.YtgpiclngkmjnpaaGreatDoor
open Go.RowKit
set_option maxRecDepth 100000
set_option linter.unusedVariables false

set_option maxHeartbeats 4000000 in
theorem ldBut_same (m l : List T8) (gx cx g c n : Nat) (one two : Int) (w : World) (hm : HasT w ⟨some ⟨gx, 0, none⟩, n, cx⟩ m) (hl : HasT w ⟨some ⟨g, 0, none⟩, n, c⟩ l) (hmn : m.length = n) (hln : l.length = n) (h8 : n ≤ 8) (hz : ∀ i (h : i < l.length), l[i].slots.length ≤ 1048576 ∧ l[i].queue.length ≤ 1048576)
    (hs : ∀ i (h1 : i < m.length) (h2 : i < l.length), (i : Int) + 1 ≠ one → (i : Int) + 1 ≠ two → m[i] = l[i]) :
    Calls Tryz.prog 22 #[.slice (some ⟨gx, 0, none⟩) n cx, .slice (some ⟨g, 0, none⟩) n c, .int .i64 one, .int .i64 two] w fun e w' => e = .returned (.bool true) ∧ Below w.heap.size w w' := by
  have HM := Lib.hid hm
  have HL := Lib.hid hl
  have HZ := Lib.hid hz
  have HS := Lib.hid hs
  have HMN := Lib.hid hmn
  have HLN := Lib.hid hln
  clear hm hl hz hs hmn hln
  go_enter Tryz.func22, Tryz.ntmps22
  go_wp2
  go_loopw [9] (fun i wr => ∃ k : Nat, k ≤ n ∧ i = .int .i64 k ∧ Below w.heap.size w wr) (fun i _ => n - (intOf i).toNat)
  case atStart => exact ⟨0, by omega, rfl, Below.refl _ _⟩
  case round =>
    obtain ⟨k, hk, rfl, B0⟩ := hrel
    have HB := Lib.hid B0
    clear B0
    by_cases hlt : ¬ k < n
    · have hlt' : ¬ (k : Int) < (n : Int) := by omega
      go_wp2
      go_ret
      exact ⟨rfl, HB.out⟩
    have hkl : k < n := by omega
    have hlt' : (k : Int) < (n : Int) := by omega
    have wk : wrap64 ((k : Int) + 1) = (k : Int) + 1 := by unfold wrap64; omega
    have wk2 : IntKind.i64.wrap ((k : Int) + 1) = (k : Int) + 1 := IntWalk.i64_in _ (by omega)
    have wk3 : IntKind.i64.wrap (k : Int) = (k : Int) := IntWalk.i64_in _ (by omega)
    by_cases h1 : (k : Int) + 1 = one
    · subst h1
      go_upto_region 6 with fail
      go_quiet (fail)
      go_wp2
      go_roundw
      case rel => exact ⟨k + 1, by omega, by go_num, drewNB HB.out _⟩
      case measure => simp [intOf]; omega
    have h1' : ((k : Int) + 1 == one) = false := by simpa using h1
    have h1'' : ((k : Int) + 1 != one) = true := by simpa using h1
    by_cases h2 : (k : Int) + 1 = two
    · subst h2
      clear h1
      go_upto_region 6 with fail
      go_quiet (fail)
      go_wp2
      go_roundw
      case rel => exact ⟨k + 1, by omega, by go_num, drewNB HB.out _⟩
      case measure => simp [intOf]; omega
    have h2' : ((k : Int) + 1 == two) = false := by simpa using h2
    have h2'' : ((k : Int) + 1 != two) = true := by simpa using h2
    have hkm : k < m.length := by rw [HMN.out]; exact hkl
    have hkl' : k < l.length := by rw [HLN.out]; exact hkl
    obtain ⟨ss, qs, hR, hQ, hA⟩ := (HL.out.stay HB.out).cells hkl'
    obtain ⟨sx, qx, hR', hQ', hA'⟩ := (HM.out.stay HB.out).cells hkm
    rw [HS.out k hkm hkl' h1 h2] at hR' hQ' hA'
    have hsm := HZ.out k hkl'
    obtain ⟨y, hy⟩ : ∃ y, l[k] = y := ⟨_, rfl⟩
    rw [hy] at hR hQ hA hR' hQ' hA' hsm
    have d0 : wr.cell? ⟨g, k * 8, none⟩ = some (.int .i64 y.kind) := hA 0 _ rfl
    have d1 : wr.cell? ⟨g, k * 8 + 1, none⟩ = some (.int .i64 y.sec) := hA 1 _ rfl
    have d2 : wr.cell? ⟨g, k * 8 + 2, none⟩ = some (.int .i64 y.vou) := hA 2 _ rfl
    have d3 : wr.cell? ⟨g, k * 8 + 3, none⟩ = some (.int .i64 y.vers) := hA 3 _ rfl
    have d4 : wr.cell? ⟨g, k * 8 + 4, none⟩ = some (.int .i64 y.num) := hA 4 _ rfl
    have d5 : wr.cell? ⟨g, k * 8 + 5, none⟩ = some (.slice ss.a ss.n ss.c) := hA 5 _ rfl
    have d6 : wr.cell? ⟨g, k * 8 + 6, none⟩ = some (.slice qs.a qs.n qs.c) := hA 6 _ rfl
    have d7 : wr.cell? ⟨g, k * 8 + 7, none⟩ = some (.int .i64 y.to) := hA 7 _ rfl
    have e0 : wr.cell? ⟨gx, k * 8, none⟩ = some (.int .i64 y.kind) := hA' 0 _ rfl
    have e1 : wr.cell? ⟨gx, k * 8 + 1, none⟩ = some (.int .i64 y.sec) := hA' 1 _ rfl
    have e2 : wr.cell? ⟨gx, k * 8 + 2, none⟩ = some (.int .i64 y.vou) := hA' 2 _ rfl
    have e3 : wr.cell? ⟨gx, k * 8 + 3, none⟩ = some (.int .i64 y.vers) := hA' 3 _ rfl
    have e4 : wr.cell? ⟨gx, k * 8 + 4, none⟩ = some (.int .i64 y.num) := hA' 4 _ rfl
    have e5 : wr.cell? ⟨gx, k * 8 + 5, none⟩ = some (.slice sx.a sx.n sx.c) := hA' 5 _ rfl
    have e6 : wr.cell? ⟨gx, k * 8 + 6, none⟩ = some (.slice qx.a qx.n qx.c) := hA' 6 _ rfl
    have e7 : wr.cell? ⟨gx, k * 8 + 7, none⟩ = some (.int .i64 y.to) := hA' 7 _ rfl
    have cc0 := fun zz : Wd (Kn wr []) => stayCell d0 zz.ok.1
    have ee0 := fun zz : Wd (Kn wr []) => stayCell e0 zz.ok.1
    have cc1 := fun zz : Wd (Kn wr []) => stayCell d1 zz.ok.1
    have ee1 := fun zz : Wd (Kn wr []) => stayCell e1 zz.ok.1
    have cc2 := fun zz : Wd (Kn wr []) => stayCell d2 zz.ok.1
    have ee2 := fun zz : Wd (Kn wr []) => stayCell e2 zz.ok.1
    have cc3 := fun zz : Wd (Kn wr []) => stayCell d3 zz.ok.1
    have ee3 := fun zz : Wd (Kn wr []) => stayCell e3 zz.ok.1
    have cc4 := fun zz : Wd (Kn wr []) => stayCell d4 zz.ok.1
    have ee4 := fun zz : Wd (Kn wr []) => stayCell e4 zz.ok.1
    have cc5 := fun zz : Wd (Kn wr []) => stayCell d5 zz.ok.1
    have ee5 := fun zz : Wd (Kn wr []) => stayCell e5 zz.ok.1
    have cc6 := fun zz : Wd (Kn wr []) => stayCell d6 zz.ok.1
    have ee6 := fun zz : Wd (Kn wr []) => stayCell e6 zz.ok.1
    have cc7 := fun zz : Wd (Kn wr []) => stayCell d7 zz.ok.1
    have ee7 := fun zz : Wd (Kn wr []) => stayCell e7 zz.ok.1
    have ne : Nonempty (Wd (Kn wr [])) := ⟨⟨_, (Kn.refl (w := wr)).drew⟩⟩
    have HLD := Lib.hid (fun zz : Wd (Kn wr []) => ldThing_same y sx qx ss qs zz.w (hR'.stay zz.ok.1) (hQ'.stay zz.ok.1) (hR.stay zz.ok.1) (hQ.stay zz.ok.1) hsm.1 hsm.2)
    clear d0 e0 d1 e1 d2 e2 d3 e3 d4 e4 d5 e5 d6 e6 d7 e7 hR hQ hR' hQ' hA hA' hy hsm h1 h2
    go_upto_region 6 with fail
    refine wp_region_quiet (C := fun y => ∃ zz : Wd (Kn wr []), y = zz.w) (by kernel_rfl) (by kernel_rfl) ⟨⟨_, (Kn.refl (w := wr)).drew⟩, rfl⟩ ?_
    show wpQuiet _ _ _ _ [_, _, _, _, _, _, _, _, _, _, _, _, _, _, _, _, _, _, _, _, _, _] _
    repeat (first | go_big_quiet_step ((go_at_call 24; with_reducible exact inCls Kn.stay (HLD.out _))) | quiet_step ((go_at_call 24; with_reducible exact inCls Kn.stay (HLD.out _))))
    refine wpQuiet_nil ?_
    rintro _ ⟨⟨y9, K9⟩, rfl⟩
    have HB2 := Lib.hid (HB.out.trans (K9.1.mono HB.out.size))
    clear ne cc0 ee0 cc1 ee1 cc2 ee2 cc3 ee3 cc4 ee4 cc5 ee5 cc6 ee6 cc7 ee7 K9 HLD
    go_wp2
    go_roundw
    case rel => exact ⟨k + 1, by omega, by go_num, HB2.out⟩
    case measure => simp [intOf]; omega
end Go.Proofs.YtgpiclngkmjnpaaGreatDoor

namespace Go.Proofs.YtgpiclngkmjnpaaGreatDoor
open Go.ChangeShapes Go.WideShapes Go.RowKit
set_option linter.unusedVariables false

theorem etName : Tryz.prog.globalNamed "errors.errorType" = some 0 := by kernel_rfl
theorem rtRow : (Tryz.prog.cutTypes.find? (·.1 == "internal/reflectlite.rtype")).map (·.2) = some 154 := by kernel_rfl
theorem errRow : ((List.range Tryz.prog.types.size).filter fun t => Tryz.prog.rowNamed t [101, 114, 114, 111, 114]) = [75] := by kernel_rfl
theorem et_of {W : World} (h : handlesMet Tryz.prog [("errors.errorType", Rows.laid_errors_errorType)] W) : ET W := by
  obtain ⟨name, u, ty, e1, e2, e3, e4, e5⟩ := h _ (List.mem_singleton.2 rfl)
  have en : name = [101, 114, 114, 111, 114] := (Option.some.inj e1).symm
  subst en
  obtain rfl := Option.some.inj (rtRow.symm.trans e2)
  have hm : ty ∈ (List.range Tryz.prog.types.size).filter fun t => Tryz.prog.rowNamed t [101, 114, 114, 111, 114] := List.mem_filter.2 ⟨List.mem_range.2 e3, e4⟩
  rw [errRow] at hm
  obtain rfl := List.mem_singleton.1 hm
  have hh : typeHandle Tryz.prog 75 = hnd 75 := by kernel_rfl
  rw [hh] at e5
  have := World.var?_cell etName e5 0
  unfold ET
  simpa using this
end Go.Proofs.YtgpiclngkmjnpaaGreatDoor

namespace Go.Proofs.YtgpiclngkmjnpaaGreatDoor
open Go.RowKit Go.ChangeShapes
set_option linter.unusedVariables false
set_option maxRecDepth 100000
section
variable {H : Type} {enc : TypeId × Value → H} {w : World} {base : Nat} {sp : Nat → Bool} {held : Bool}
theorem str_of_trod {fuel : Nat} {cs : List Value} {bs : List UInt8} {p : List MemPlace} (h : DataW.trod enc Tryz.prog w base sp held fuel 9 cs = some (.lit (.string bs), p)) : cs = [.string ⟨bs.toArray⟩] := by
  cases fuel with
  | zero => simp [DataW.trod] at h
  | succ fuel =>
    simp only [DataW.trod, Tryz.underlying9] at h
    split at h <;> simp_all
    obtain ⟨-, h1, -⟩ := h
    subst h1
    simp
theorem int_of_trod {fuel : Nat} {cs : List Value} {n : Int} {p : List MemPlace} (h : DataW.trod enc Tryz.prog w base sp held fuel 3 cs = some (.lit (.int .i64 n), p)) : cs = [.int .i64 n] := by
  obtain ⟨z, hc, hz, -⟩ := DataW.trod_int Tryz.underlying3 h
  simp at hz
  rw [hz.1]
  exact hc
theorem cellsI : Tryz.prog.cellsOf 3 = 1 := by kernel_rfl
theorem cellsSt : Tryz.prog.cellsOf 9 = 1 := by kernel_rfl
theorem cellsSp : Tryz.prog.cellsOf 103 = 2 := by kernel_rfl
theorem cellsF : Tryz.prog.cellsOf 112 = 11 := by kernel_rfl
theorem cellsA : Tryz.prog.cellsOf 152 = 66 := by kernel_rfl
theorem span_of_trod {fuel : Nat} {cs : List Value} {a b : Int} {p : List MemPlace} (h : DataW.trod enc Tryz.prog w base sp held fuel 103 cs = some (.agg [.lit (.int .i64 a), .lit (.int .i64 b)], p)) : cs = [.int .i64 a, .int .i64 b] := by
  cases fuel with
  | zero => simp [DataW.trod] at h
  | succ fuel =>
    simp only [DataW.trod, Tryz.underlying103, cellsSp] at h
    split at h
    · rename_i hl
      obtain ⟨xs, hm, hx⟩ := Option.map_eq_some_iff.1 h
      simp only [List.mapM_cons, List.mapM_nil, cellsI, Option.bind_eq_bind, Option.bind_eq_some_iff, Option.pure_def, Option.some.injEq] at hm
      obtain ⟨y0, h0, ys, ⟨y1, h1, zs, rfl, rfl⟩, rfl⟩ := hm
      simp only [List.map_cons, List.map_nil, Prod.mk.injEq, DataW.agg.injEq, List.cons.injEq, and_true] at hx
      obtain ⟨⟨e0, e1⟩, -⟩ := hx
      obtain ⟨d0, q0⟩ := y0
      obtain ⟨d1, q1⟩ := y1
      simp only at e0 e1
      subst e0 e1
      match cs, hl with
      | [c0, c1], _ =>
        have i0 := int_of_trod h0
        have i1 := int_of_trod h1
        simp at i0 i1
        rw [i0, i1]
    · cases h
theorem row_of_trod {fuel : Nat} {cs : List Value} {nm : List UInt8} {a0 a1 b0 b1 c0 c1 d0 d1 e0 e1 : Int} {p : List MemPlace}
    (h : DataW.trod enc Tryz.prog w base sp held fuel 112 cs = some (.agg [.lit (.string nm), .agg [.lit (.int .i64 a0), .lit (.int .i64 a1)], .agg [.lit (.int .i64 b0), .lit (.int .i64 b1)], .agg [.lit (.int .i64 c0), .lit (.int .i64 c1)], .agg [.lit (.int .i64 d0), .lit (.int .i64 d1)], .agg [.lit (.int .i64 e0), .lit (.int .i64 e1)]], p)) :
    cs = [.string ⟨nm.toArray⟩, .int .i64 a0, .int .i64 a1, .int .i64 b0, .int .i64 b1, .int .i64 c0, .int .i64 c1, .int .i64 d0, .int .i64 d1, .int .i64 e0, .int .i64 e1] := by
  cases fuel with
  | zero => simp [DataW.trod] at h
  | succ fuel =>
    simp only [DataW.trod, Tryz.underlying112, cellsF] at h
    split at h
    · rename_i hl
      obtain ⟨xs, hm, hx⟩ := Option.map_eq_some_iff.1 h
      simp only [List.mapM_cons, List.mapM_nil, cellsSt, cellsSp, Option.bind_eq_bind, Option.bind_eq_some_iff, Option.pure_def, Option.some.injEq] at hm
      obtain ⟨y0, h0, _, ⟨y1, h1, _, ⟨y2, h2, _, ⟨y3, h3, _, ⟨y4, h4, _, ⟨y5, h5, _, rfl, rfl⟩, rfl⟩, rfl⟩, rfl⟩, rfl⟩, rfl⟩ := hm
      simp only [List.map_cons, List.map_nil, Prod.mk.injEq, DataW.agg.injEq, List.cons.injEq, and_true] at hx
      obtain ⟨⟨f0, f1, f2, f3, f4, f5⟩, -⟩ := hx
      obtain ⟨g0, q0⟩ := y0
      obtain ⟨g1, q1⟩ := y1
      obtain ⟨g2, q2⟩ := y2
      obtain ⟨g3, q3⟩ := y3
      obtain ⟨g4, q4⟩ := y4
      obtain ⟨g5, q5⟩ := y5
      simp only at f0 f1 f2 f3 f4 f5
      subst f0 f1 f2 f3 f4 f5
      match cs, hl with
      | [x0, x1, x2, x3, x4, x5, x6, x7, x8, x9, x10], _ =>
        have i0 := str_of_trod h0
        have i1 := span_of_trod h1
        have i2 := span_of_trod h2
        have i3 := span_of_trod h3
        have i4 := span_of_trod h4
        have i5 := span_of_trod h5
        simp at i0 i1 i2 i3 i4 i5
        simp [i0, i1, i2, i3, i4, i5]
    · cases h
end
theorem gK : Tryz.prog.globalNamed "loop.example/drawbar/impl.kindFields" = some 1 := by kernel_rfl
theorem gKType : (Tryz.prog.globals[(1 : Nat)]?).map (·.type) = some 152 := by kernel_rfl

set_option maxRecDepth 100000 in
/-- What lies in the table's place. -/
theorem kf_of {W : World} {rest : List (String × DataW Unit)} (h : laidMet Tryz.prog (("loop.example/drawbar/impl.kindFields", Rows.laid_loop_example_drawbar_impl_kindFields) :: rest) W) : KF W := by
  obtain ⟨ps, ⟨g, t, cs, fuel, p, q, hg, ht, hvar, hd, -, -⟩, -⟩ := h
  obtain rfl := Option.some.inj (gK.symm.trans hg)
  obtain rfl := Option.some.inj (gKType.symm.trans ht)
  cases fuel with
  | zero => simp [DataW.trod] at hd
  | succ fuel =>
    simp only [DataW.trod, Tryz.underlying152, cellsA, cellsF] at hd
    split at hd
    · rename_i hl
      obtain ⟨xs, hm, hx⟩ := Option.map_eq_some_iff.1 hd
      have hrow : ∀ k : Nat, k < 6 → ∀ j v, (rowOf k).cs[j]? = some v → cs.toList[k * 11 + j]? = some v := by
        rw [show List.range 6 = [0, 1, 2, 3, 4, 5] by rfl] at hm
        simp only [List.mapM_cons, List.mapM_nil, Option.bind_eq_bind, Option.bind_eq_some_iff, Option.pure_def, Option.some.injEq] at hm
        obtain ⟨y0, h0, _, ⟨y1, h1, _, ⟨y2, h2, _, ⟨y3, h3, _, ⟨y4, h4, _, ⟨y5, h5, _, rfl, rfl⟩, rfl⟩, rfl⟩, rfl⟩, rfl⟩, rfl⟩ := hm
        simp only [List.map_cons, List.map_nil, Prod.mk.injEq, DataW.agg.injEq, List.cons.injEq, and_true, Rows.laid_loop_example_drawbar_impl_kindFields] at hx
        obtain ⟨⟨f0, f1, f2, f3, f4, f5⟩, -⟩ := hx
        obtain ⟨g0, q0⟩ := y0
        obtain ⟨g1, q1⟩ := y1
        obtain ⟨g2, q2⟩ := y2
        obtain ⟨g3, q3⟩ := y3
        obtain ⟨g4, q4⟩ := y4
        obtain ⟨g5, q5⟩ := y5
        simp only at f0 f1 f2 f3 f4 f5
        subst f0 f1 f2 f3 f4 f5
        have r0 := row_of_trod h0
        have r1 := row_of_trod h1
        have r2 := row_of_trod h2
        have r3 := row_of_trod h3
        have r4 := row_of_trod h4
        have r5 := row_of_trod h5
        clear h0 h1 h2 h3 h4 h5
        have key : ∀ (k : Nat) (r : List Value), (cs.toList.drop (k * 11)).take 11 = r → ∀ j v, j < 11 → r[j]? = some v → cs.toList[k * 11 + j]? = some v := by
          intro k r hr j v hj hv
          rw [← hr] at hv
          simpa [List.getElem?_take, List.getElem?_drop, hj] using hv
        intro k hk j v hv
        have hj : j < 11 := by
          have := (Array.getElem?_eq_some_iff.1 hv).1
          simpa using this
        match k, hk with
        | 0, _ => exact key 0 _ r0 j v hj (by simpa [rowOf] using hv)
        | 1, _ => exact key 1 _ r1 j v hj (by simpa [rowOf] using hv)
        | 2, _ => exact key 2 _ r2 j v hj (by simpa [rowOf] using hv)
        | 3, _ => exact key 3 _ r3 j v hj (by simpa [rowOf] using hv)
        | 4, _ => exact key 4 _ r4 j v hj (by simpa [rowOf] using hv)
        | 5, _ => exact key 5 _ r5 j v hj (by simpa [rowOf] using hv)
      intro k hk j v hv
      have h1 := hrow k hk j v hv
      have h2 := World.var?_cell gK hvar (k * 11 + j)
      rw [h2]
      simpa using h1
    · cases hd
end Go.Proofs.YtgpiclngkmjnpaaGreatDoor
