/-
  The program's parseFields.
-/
import Derived.Test.YthbeiigiffnhjaaDoorRigP1
import Derived.Test.YthbeiigiffnhjaaDoorRigS
namespace Go.Proofs.YthbeiigiffnhjaaDoor
open Go.RowKit
set_option linter.unusedVariables false

set_option maxHeartbeats 1000000 in
theorem fields_none (s : ByteArray) (a : Addr) (es er : Value) (h : Lib.indexByte s.data.toList 46 = -1) (w : World) (hv : Vs a es er w) :
    Calls Tryd.prog 25 #[.string s] w fun e w' => e = .returned (.tuple #[rgt 0 0 false false false, bad a]) ∧ Below w.heap.size w w' := by
  have H := Lib.hid (fun x => cut_none s h x)
  have K0 := (Kn.refl (w := w)).new 24 (rgtC 0 0 false false false)
  have hm := (hv.on K0.1).m
  clear h hv
  go_enter Tryd.func25, Tryd.ntmps25
  go_wp2_with fail
  refine (H.out _).mono ?_
  rintro e x ⟨rfl, rfl⟩
  have c0 := K0.c (b := w.heap.size) (T := 24) (vs := rgtC 0 0 false false false) (by simp) 0 _ rfl
  have cf0 := K0.f (b := w.heap.size) (T := 24) (vs := rgtC 0 0 false false false) (by simp) 0
  have c1 := K0.c (b := w.heap.size) (T := 24) (vs := rgtC 0 0 false false false) (by simp) 1 _ rfl
  have cf1 := K0.f (b := w.heap.size) (T := 24) (vs := rgtC 0 0 false false false) (by simp) 1
  have c2 := K0.c (b := w.heap.size) (T := 24) (vs := rgtC 0 0 false false false) (by simp) 2 _ rfl
  have cf2 := K0.f (b := w.heap.size) (T := 24) (vs := rgtC 0 0 false false false) (by simp) 2
  have c3 := K0.c (b := w.heap.size) (T := 24) (vs := rgtC 0 0 false false false) (by simp) 3 _ rfl
  have cf3 := K0.f (b := w.heap.size) (T := 24) (vs := rgtC 0 0 false false false) (by simp) 3
  have c4 := K0.c (b := w.heap.size) (T := 24) (vs := rgtC 0 0 false false false) (by simp) 4 _ rfl
  have cf4 := K0.f (b := w.heap.size) (T := 24) (vs := rgtC 0 0 false false false) (by simp) 4
  go_wp2_with fail
  go_region
  go_wp2
  refine bodyPost_ret (v := .tuple #[rgt 0 0 false false false, bad a]) (by simp [results, Tryd.results25, go_sem, *]) rfl ⟨rfl, ?_⟩
  refine Below.drew ?_
  repeat (first | exact K0.1 | refine Below.setCell ?_ (by dsimp only; omega) _)

set_option maxHeartbeats 2000000 in
theorem fields_short (s : ByteArray) (o : Nat) (a : Addr) (es er : Value) (h : Lib.indexByte s.data.toList 46 = o) (ho : o < s.size) (hz : s.size ≤ 1048576) (rest : ByteArray) (hr : s.extract (o + 1) s.size = rest) (h3 : (rest.size : Int) < 3) (w : World) (hv : Vs a es er w) :
    Calls Tryd.prog 25 #[.string s] w fun e w' => e = .returned (.tuple #[rgt 0 0 false false false, bad a]) ∧ Below w.heap.size w w' := by
  have H := Lib.hid (fun x => cut_some s o h ho hz x)
  rw [hr] at H
  have K0 := (Kn.refl (w := w)).new 24 (rgtC 0 0 false false false)
  have HV := Lib.hid hv
  clear h hv ho hz hr
  go_enter Tryd.func25, Tryd.ntmps25
  go_wp2_with fail
  refine (H.out _).mono ?_
  rintro e x ⟨rfl, hb⟩
  have K1 := K0.stay hb
  have hm := (HV.out.on K1.1).m
  have h7 := HV.out.z
  have n0 : w.heap.size ≠ 0 := by omega
  have n1 : 0 ≠ w.heap.size := by omega
  clear h7
  have c0 := K1.c (b := w.heap.size) (T := 24) (vs := rgtC 0 0 false false false) (by simp) 0 _ rfl
  have cf0 := K1.f (b := w.heap.size) (T := 24) (vs := rgtC 0 0 false false false) (by simp) 0
  have c1 := K1.c (b := w.heap.size) (T := 24) (vs := rgtC 0 0 false false false) (by simp) 1 _ rfl
  have cf1 := K1.f (b := w.heap.size) (T := 24) (vs := rgtC 0 0 false false false) (by simp) 1
  have c2 := K1.c (b := w.heap.size) (T := 24) (vs := rgtC 0 0 false false false) (by simp) 2 _ rfl
  have cf2 := K1.f (b := w.heap.size) (T := 24) (vs := rgtC 0 0 false false false) (by simp) 2
  have c3 := K1.c (b := w.heap.size) (T := 24) (vs := rgtC 0 0 false false false) (by simp) 3 _ rfl
  have cf3 := K1.f (b := w.heap.size) (T := 24) (vs := rgtC 0 0 false false false) (by simp) 3
  have c4 := K1.c (b := w.heap.size) (T := 24) (vs := rgtC 0 0 false false false) (by simp) 4 _ rfl
  have cf4 := K1.f (b := w.heap.size) (T := 24) (vs := rgtC 0 0 false false false) (by simp) 4
  clear K0 hb
  go_wp2_with fail
  go_region
  go_wp2
  refine bodyPost_ret (v := .tuple #[rgt 0 0 false false false, bad a]) (by simp [results, Tryd.results25, go_sem, *]) rfl ⟨rfl, ?_⟩
  refine Below.drew ?_
  repeat (first | exact K1.1 | refine Below.setCell ?_ (by dsimp only; omega) _)

set_option maxHeartbeats 4000000 in
/-- Three letters behind, and what the two numbers read as. -/
theorem fields_gen (s : ByteArray) (o : Nat) (a : Addr) (es er : Value) (h : Lib.indexByte s.data.toList 46 = o) (ho : o < s.size) (hz : s.size ≤ 1048576) (pre rest num lets : ByteArray) (hp : s.extract 0 o = pre) (hr : s.extract (o + 1) s.size = rest) (h3 : 3 ≤ rest.size)
    (hn : rest.extract 0 (rest.size - 3) = num) (hl : rest.extract (rest.size - 3) rest.size = lets) (l0 : 0 < lets.size) (l1 : 1 < lets.size) (l2 : 2 < lets.size)
    (F1 F2 : Prop) (Q1 Q2 : Int → Prop)
    (C1 : ∀ x, Vs a es er x → Calls Tryd.prog 29 #[.string pre] x fun e x' => (e = .returned (.tuple #[.int .i64 0, bad a]) ∧ F1 ∨ ∃ n : Int, e = .returned (.tuple #[.int .i64 n, .nilIface]) ∧ Q1 n) ∧ Below x.heap.size x x')
    (C2 : ∀ x, Vs a es er x → Calls Tryd.prog 29 #[.string num] x fun e x' => (e = .returned (.tuple #[.int .i64 0, bad a]) ∧ F2 ∨ ∃ n : Int, e = .returned (.tuple #[.int .i64 n, .nilIface]) ∧ Q2 n) ∧ Below x.heap.size x x')
    (w : World) (hv : Vs a es er w) :
    Calls Tryd.prog 25 #[.string s] w fun e w' => (e = .returned (.tuple #[rgt 0 0 false false false, bad a]) ∧ (F1 ∨ F2) ∨ ∃ p q : Int, e = .returned (.tuple #[rgt p q ((lets[0].toNat : Int) == 114) ((lets[1].toNat : Int) == 119) ((lets[2].toNat : Int) == 107), .nilIface]) ∧ Q1 p ∧ Q2 q) ∧ Below w.heap.size w w' := by
  have hrz : rest.size ≤ 1048576 := by rw [← hr, ByteArray.size_extract]; omega
  have H := Lib.hid (fun x => cut_some s o h ho hz x)
  rw [hp, hr] at H
  have K0 := (Kn.refl (w := w)).new 24 (rgtC 0 0 false false false)
  have HV := Lib.hid hv
  have HC1 := Lib.hid C1
  have HC2 := Lib.hid C2
  have hw : wrap64 ((rest.size : Int) - 3) = ((rest.size - 3 : Nat) : Int) := by unfold wrap64; omega
  have hge : ¬ ((rest.size : Int) < 3) := by omega
  have hle : rest.size - 3 ≤ rest.size := by omega
  have i0 : (0 : Int) < (lets.size : Int) := by omega
  have i1 : (1 : Int) < (lets.size : Int) := by omega
  have i2 : (2 : Int) < (lets.size : Int) := by omega
  clear h hv ho hz hr hp C1 C2 hrz h3
  go_enter Tryd.func25, Tryd.ntmps25
  go_wp2_with fail
  refine (H.out _).mono ?_
  rintro e x ⟨rfl, hb⟩
  have K1 := K0.stay hb
  clear K0 hb H
  go_wp2_with fail
  refine (HC1.out _ (HV.out.on K1.1)).mono ?_
  rintro e x2 ⟨⟨rfl, g1⟩ | ⟨p, rfl, g1⟩, hb⟩
  · have K2 := K1.stay hb
    have c0 := K2.c (b := w.heap.size) (T := 24) (vs := rgtC 0 0 false false false) (by simp) 0 _ rfl
    have cf0 := K2.f (b := w.heap.size) (T := 24) (vs := rgtC 0 0 false false false) (by simp) 0
    have c1 := K2.c (b := w.heap.size) (T := 24) (vs := rgtC 0 0 false false false) (by simp) 1 _ rfl
    have cf1 := K2.f (b := w.heap.size) (T := 24) (vs := rgtC 0 0 false false false) (by simp) 1
    have c2 := K2.c (b := w.heap.size) (T := 24) (vs := rgtC 0 0 false false false) (by simp) 2 _ rfl
    have cf2 := K2.f (b := w.heap.size) (T := 24) (vs := rgtC 0 0 false false false) (by simp) 2
    have c3 := K2.c (b := w.heap.size) (T := 24) (vs := rgtC 0 0 false false false) (by simp) 3 _ rfl
    have cf3 := K2.f (b := w.heap.size) (T := 24) (vs := rgtC 0 0 false false false) (by simp) 3
    have c4 := K2.c (b := w.heap.size) (T := 24) (vs := rgtC 0 0 false false false) (by simp) 4 _ rfl
    have cf4 := K2.f (b := w.heap.size) (T := 24) (vs := rgtC 0 0 false false false) (by simp) 4
    clear K1 hb HC1 HC2 HV
    go_wp2
    refine bodyPost_ret (v := .tuple #[rgt 0 0 false false false, bad a]) (by simp [results, Tryd.results25, go_sem, *]) rfl ⟨.inl ⟨rfl, .inl g1⟩, ?_⟩
    repeat (first | exact K2.1 | refine Below.setCell ?_ (by dsimp only; omega) _)
  have K2 := K1.stay hb
  clear K1 hb HC1
  go_wp2_with fail
  refine (HC2.out _ (HV.out.on K2.1)).mono ?_
  rintro e x3 ⟨⟨rfl, g2⟩ | ⟨q, rfl, g2⟩, hb⟩
  · have K3 := K2.stay hb
    have c0 := K3.c (b := w.heap.size) (T := 24) (vs := rgtC 0 0 false false false) (by simp) 0 _ rfl
    have cf0 := K3.f (b := w.heap.size) (T := 24) (vs := rgtC 0 0 false false false) (by simp) 0
    have c1 := K3.c (b := w.heap.size) (T := 24) (vs := rgtC 0 0 false false false) (by simp) 1 _ rfl
    have cf1 := K3.f (b := w.heap.size) (T := 24) (vs := rgtC 0 0 false false false) (by simp) 1
    have c2 := K3.c (b := w.heap.size) (T := 24) (vs := rgtC 0 0 false false false) (by simp) 2 _ rfl
    have cf2 := K3.f (b := w.heap.size) (T := 24) (vs := rgtC 0 0 false false false) (by simp) 2
    have c3 := K3.c (b := w.heap.size) (T := 24) (vs := rgtC 0 0 false false false) (by simp) 3 _ rfl
    have cf3 := K3.f (b := w.heap.size) (T := 24) (vs := rgtC 0 0 false false false) (by simp) 3
    have c4 := K3.c (b := w.heap.size) (T := 24) (vs := rgtC 0 0 false false false) (by simp) 4 _ rfl
    have cf4 := K3.f (b := w.heap.size) (T := 24) (vs := rgtC 0 0 false false false) (by simp) 4
    clear K2 hb HC2 HV
    go_wp2
    refine bodyPost_ret (v := .tuple #[rgt 0 0 false false false, bad a]) (by simp [results, Tryd.results25, go_sem, *]) rfl ⟨.inl ⟨rfl, .inr g2⟩, ?_⟩
    repeat (first | exact K3.1 | refine Below.setCell ?_ (by dsimp only; omega) _)
  have K3 := K2.stay hb
  have c0 := K3.c (b := w.heap.size) (T := 24) (vs := rgtC 0 0 false false false) (by simp) 0 _ rfl
  have cf0 := K3.f (b := w.heap.size) (T := 24) (vs := rgtC 0 0 false false false) (by simp) 0
  have c1 := K3.c (b := w.heap.size) (T := 24) (vs := rgtC 0 0 false false false) (by simp) 1 _ rfl
  have cf1 := K3.f (b := w.heap.size) (T := 24) (vs := rgtC 0 0 false false false) (by simp) 1
  have c2 := K3.c (b := w.heap.size) (T := 24) (vs := rgtC 0 0 false false false) (by simp) 2 _ rfl
  have cf2 := K3.f (b := w.heap.size) (T := 24) (vs := rgtC 0 0 false false false) (by simp) 2
  have c3 := K3.c (b := w.heap.size) (T := 24) (vs := rgtC 0 0 false false false) (by simp) 3 _ rfl
  have cf3 := K3.f (b := w.heap.size) (T := 24) (vs := rgtC 0 0 false false false) (by simp) 3
  have c4 := K3.c (b := w.heap.size) (T := 24) (vs := rgtC 0 0 false false false) (by simp) 4 _ rfl
  have cf4 := K3.f (b := w.heap.size) (T := 24) (vs := rgtC 0 0 false false false) (by simp) 4
  clear K2 hb HC2 HV
  go_wp2_with fail
  go_region
  go_wp2
  refine bodyPost_ret (v := .tuple #[rgt p q ((lets[0].toNat : Int) == 114) ((lets[1].toNat : Int) == 119) ((lets[2].toNat : Int) == 107), .nilIface]) (by simp [results, Tryd.results25, go_sem, *]) rfl ⟨.inr ⟨p, q, rfl, g1, g2⟩, ?_⟩
  refine Below.drew ?_
  repeat (first | exact K3.1 | refine Below.setCell ?_ (by dsimp only; omega) _)
end Go.Proofs.YthbeiigiffnhjaaDoor
