/-
  errors.Is at the program's one sentinel: itself, and nil.
-/
import Derived.Test.YthbeiigiffnhjaaDoorBase
import Derived.LaidEql
import Derived.Stop.Asserts
import Derived.RowKitTokens
namespace Go.Proofs.YthbeiigiffnhjaaDoor
open Go.RowKit Go.Extern.Stop Go.Stop Go.Extern
set_option linter.unusedVariables false

theorem eiTypeOf (v : Value) (w : World) : (Extern.ReflectliteType.typeOf #[.iface 100 v]).run Tryd.prog w = .ok (.iface 68 (.agg #[.pointer (some ⟨7, 100, none⟩)])) w := by kernel_rfl
theorem eiComparable (w : World) : ((Extern.ReflectliteType.method fun t => do Rtype.noPackHeld "Comparable" t; pure (.bool (← typeInfo t).comparable)) #[.agg #[.pointer (some ⟨7, 100, none⟩)]]).run Tryd.prog w = .ok (.bool true) w := by kernel_rfl
theorem eiMethod (v : Value) (w : World) : (Go.method 250 68 v "Comparable").run Tryd.prog w = .ok (90, v) w := by kernel_rfl
theorem eiCallA (v : Value) (w : World) : (callFunc 26 #[.iface 100 v]).run Tryd.prog w = .ok (.value (.iface 68 (.agg #[.pointer (some ⟨7, 100, none⟩)]))) w :=
  (@run_callFunc_extern Tryd.prog 26 _ Extern.ReflectliteType.typeOf Tryd.func26 (by kernel_rfl) (by kernel_rfl) (by kernel_rfl) (by kernel_rfl) _ w).trans (by rw [eiTypeOf]; rfl)
theorem eiCallB (w : World) : (callFunc 90 #[.agg #[.pointer (some ⟨7, 100, none⟩)]]).run Tryd.prog w = .ok (.value (.bool true)) w :=
  (@run_callFunc_extern Tryd.prog 90 _ (Extern.ReflectliteType.method fun t => do Rtype.noPackHeld "Comparable" t; pure (.bool (← typeInfo t).comparable)) Tryd.func90 (by kernel_rfl) (by kernel_rfl) (by kernel_rfl) (by kernel_rfl) _ w).trans (by rw [eiComparable]; rfl)
theorem eiComp : (Tryd.prog.info? 100).map (·.comparable) = some true := by kernel_rfl
theorem eiSize : (Tryd.prog.info? 102).map (·.size) = some 1 := by kernel_rfl

set_option maxHeartbeats 1000000 in
theorem is_self (a : Addr) (w : World) :
    Calls Tryd.prog 21 #[.iface 100 (.pointer (some a)), .iface 100 (.pointer (some a))] w fun e w' => e = .returned (.bool true) ∧ w' = w := by
  obtain ⟨i, hi, hcmp⟩ := Option.map_eq_some_iff.1 eiComp
  obtain ⟨j, hj, hjs⟩ := Option.map_eq_some_iff.1 eiSize
  have hA := eiCallA
  have hB := eiCallB
  have mR := eiMethod
  have heq := run_eql_iface_ptr_same (P := Tryd.prog) w a Tryd.underlying44 Tryd.underlying100 hi hcmp hj
  go_enter Tryd.func21, Tryd.ntmps21
  go_wp2
  refine wp_loop_rounds 1 ?_
  rw [rounds_succ]
  go_wp2
  go_ret
  exact ⟨rfl, rfl⟩

theorem is_none (b : Addr) (w : World) :
    Calls Tryd.prog 21 #[.nilIface, .iface 100 (.pointer (some b))] w fun e w' => e = .returned (.bool false) ∧ w' = w := by
  have hn := run_eql_iface_nil_left (P := Tryd.prog) w 100 (.pointer (some b)) Tryd.underlying44
  go_enter Tryd.func21, Tryd.ntmps21
  go_wp2
  go_ret
  exact ⟨rfl, rfl⟩
end Go.Proofs.YthbeiigiffnhjaaDoor
