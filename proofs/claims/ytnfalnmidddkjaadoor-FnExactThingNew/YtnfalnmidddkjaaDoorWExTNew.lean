/-
  The walk of laws.FnExactThingNew.
-/
import Derived.Test.YtnfalnmidddkjaaDoorTNew
import Derived.Test.YtnfalnmidddkjaaDoorEq
import Derived.Test.YtnfalnmidddkjaaDoorThgA
import Derived.Test.YtnfalnmidddkjaaDoorMkT
namespace Go.Proofs.YtnfalnmidddkjaaDoor
open Go.RowKit
set_option linter.unusedVariables false

/-- A thing that holds nothing, or none. -/
def NonePost (x : T8) (ok : Bool) (w : World) (e : Ending) (w' : World) : Prop :=
  (∃ (sa qa : Option Addr) (sc qc : Nat), e = .returned (.tuple #[x.val ⟨sa, 0, sc⟩ ⟨qa, 0, qc⟩, .bool ok])) ∧ Below w.heap.size w w'
/-- A thing with four rights of its own. -/
def FourPost (x : T8) (w : World) (e : Ending) (w' : World) : Prop :=
  (∃ (b : Nat) (qa : Option Addr) (qc : Nat) (TY : TypeId), w.heap.size ≤ b ∧ e = .returned (.tuple #[x.val ⟨some ⟨b, 0, none⟩, 4, 4⟩ ⟨qa, 0, qc⟩, .bool true]) ∧ HasR w' ⟨some ⟨b, 0, none⟩, 4, 4⟩ x.slots ∧ Box w' b TY zr20) ∧ Below w.heap.size w w'
theorem nilR {l : List R5} (h : l = []) (w : World) (a : Option Addr) (c : Nat) : HasR w ⟨a, 0, c⟩ l := by rw [h]; exact ⟨rfl, Nat.zero_le _, .inl rfl⟩
theorem nilQ {l : List Int} (h : l = []) (w : World) (a : Option Addr) (c : Nat) : HasQ w ⟨a, 0, c⟩ l := by rw [h]; exact ⟨rfl, Nat.zero_le _, .inl rfl⟩

set_option maxRecDepth 100000 in
set_option maxHeartbeats 4000000 in
theorem exTNew_none_true (kind sec vou tt : Int) (x : T8) (w : World) (hKF : KF w) (hs : x.slots = []) (hq : x.queue = [])
    (f : ∀ w, Calls Tryd.prog 16 #[.int .i64 kind, lab sec vou, .int .i64 tt] w (NonePost x true w)) (g : ∀ w, KF w → Calls Tryd.prog 17 #[.int .i64 kind, lab sec vou, .int .i64 tt] w (NonePost x true w)) :
    Calls Tryd.prog 11 #[.int .i64 kind, lab sec vou, .int .i64 tt] w fun e w' => e = .returned (.bool true) ∧ Below w.heap.size w w' := by
  have K0 := Lib.hid ((Kn.refl (w := w)).new 50 #[.int .i64 sec, .int .i64 vou])
  have HF := Lib.hid f
  have HG := Lib.hid g
  have HKF := Lib.hid hKF
  clear hKF
  have HS := Lib.hid hs
  have HQ := Lib.hid hq
  clear hs hq f g
  go_enter Tryd.func11, Tryd.ntmps11
  go_wp2_with fail
  refine (toLabel_any _ _ _).mono ?_
  rintro e y1 ⟨rfl, hb⟩
  have K1 := Lib.hid (K0.out.stay hb)
  clear hb K0
  go_wp2_with fail
  refine (HF.out _).mono ?_
  rintro e y2 ⟨⟨sa1, qa1, sc1, qc1, rfl⟩, hb⟩
  have K2 := Lib.hid ((K1.out.stay hb).new 30 (x.cs ⟨sa1, 0, sc1⟩ ⟨qa1, 0, qc1⟩))
  clear hb K1
  have l0 := K2.out.c (b := w.heap.size) (T := 50) (vs := #[.int .i64 sec, .int .i64 vou]) (by simp) 0 _ rfl
  have l1 := K2.out.c (b := w.heap.size) (T := 50) (vs := #[.int .i64 sec, .int .i64 vou]) (by simp) 1 _ rfl
  go_wp2_with fail
  refine (toLabel_any _ _ _).mono ?_
  rintro e y3 ⟨rfl, hb⟩
  have K3 := Lib.hid (K2.out.stay hb)
  clear hb K2 l0 l1
  go_wp2_with fail
  refine (HG.out _ (HKF.out.stay K3.out.1)).mono ?_
  rintro e y4 ⟨⟨sa2, qa2, sc2, qc2, rfl⟩, hb⟩
  have K4 := Lib.hid ((K3.out.stay hb).new 30 (x.cs ⟨sa2, 0, sc2⟩ ⟨qa2, 0, qc2⟩))
  clear hb K3
  have c0 := K4.out.c (b := y2.heap.size) (T := 30) (vs := (x.cs ⟨sa1, 0, sc1⟩ ⟨qa1, 0, qc1⟩)) (by simp) 0 _ rfl
  have c1 := K4.out.c (b := y2.heap.size) (T := 30) (vs := (x.cs ⟨sa1, 0, sc1⟩ ⟨qa1, 0, qc1⟩)) (by simp) 1 _ rfl
  have c2 := K4.out.c (b := y2.heap.size) (T := 30) (vs := (x.cs ⟨sa1, 0, sc1⟩ ⟨qa1, 0, qc1⟩)) (by simp) 2 _ rfl
  have c3 := K4.out.c (b := y2.heap.size) (T := 30) (vs := (x.cs ⟨sa1, 0, sc1⟩ ⟨qa1, 0, qc1⟩)) (by simp) 3 _ rfl
  have c4 := K4.out.c (b := y2.heap.size) (T := 30) (vs := (x.cs ⟨sa1, 0, sc1⟩ ⟨qa1, 0, qc1⟩)) (by simp) 4 _ rfl
  have c5 := K4.out.c (b := y2.heap.size) (T := 30) (vs := (x.cs ⟨sa1, 0, sc1⟩ ⟨qa1, 0, qc1⟩)) (by simp) 5 _ rfl
  have c6 := K4.out.c (b := y2.heap.size) (T := 30) (vs := (x.cs ⟨sa1, 0, sc1⟩ ⟨qa1, 0, qc1⟩)) (by simp) 6 _ rfl
  have c7 := K4.out.c (b := y2.heap.size) (T := 30) (vs := (x.cs ⟨sa1, 0, sc1⟩ ⟨qa1, 0, qc1⟩)) (by simp) 7 _ rfl
  have d0 := K4.out.c (b := y4.heap.size) (T := 30) (vs := (x.cs ⟨sa2, 0, sc2⟩ ⟨qa2, 0, qc2⟩)) (by simp) 0 _ rfl
  have d1 := K4.out.c (b := y4.heap.size) (T := 30) (vs := (x.cs ⟨sa2, 0, sc2⟩ ⟨qa2, 0, qc2⟩)) (by simp) 1 _ rfl
  have d2 := K4.out.c (b := y4.heap.size) (T := 30) (vs := (x.cs ⟨sa2, 0, sc2⟩ ⟨qa2, 0, qc2⟩)) (by simp) 2 _ rfl
  have d3 := K4.out.c (b := y4.heap.size) (T := 30) (vs := (x.cs ⟨sa2, 0, sc2⟩ ⟨qa2, 0, qc2⟩)) (by simp) 3 _ rfl
  have d4 := K4.out.c (b := y4.heap.size) (T := 30) (vs := (x.cs ⟨sa2, 0, sc2⟩ ⟨qa2, 0, qc2⟩)) (by simp) 4 _ rfl
  have d5 := K4.out.c (b := y4.heap.size) (T := 30) (vs := (x.cs ⟨sa2, 0, sc2⟩ ⟨qa2, 0, qc2⟩)) (by simp) 5 _ rfl
  have d6 := K4.out.c (b := y4.heap.size) (T := 30) (vs := (x.cs ⟨sa2, 0, sc2⟩ ⟨qa2, 0, qc2⟩)) (by simp) 6 _ rfl
  have d7 := K4.out.c (b := y4.heap.size) (T := 30) (vs := (x.cs ⟨sa2, 0, sc2⟩ ⟨qa2, 0, qc2⟩)) (by simp) 7 _ rfl
  go_wp2_with fail
  refine (eqThing_same x ⟨sa2, 0, sc2⟩ ⟨qa2, 0, qc2⟩ ⟨sa1, 0, sc1⟩ ⟨qa1, 0, qc1⟩ _ (nilR HS.out _ _ _) (nilQ HQ.out _ _ _) (nilR HS.out _ _ _) (nilQ HQ.out _ _ _) (by rw [HS.out]; decide) (by rw [HQ.out]; decide)).mono ?_
  rintro e y5 ⟨rfl, hb⟩
  have K5 := Lib.hid (K4.out.stay hb)
  clear hb K4
  clear c0 c1 c2 c3 c4 c5 c6 c7 d0 d1 d2 d3 d4 d5 d6 d7
  have d0 := K5.out.c (b := y4.heap.size) (T := 30) (vs := (x.cs ⟨sa2, 0, sc2⟩ ⟨qa2, 0, qc2⟩)) (by simp) 0 _ rfl
  have d1 := K5.out.c (b := y4.heap.size) (T := 30) (vs := (x.cs ⟨sa2, 0, sc2⟩ ⟨qa2, 0, qc2⟩)) (by simp) 1 _ rfl
  have d2 := K5.out.c (b := y4.heap.size) (T := 30) (vs := (x.cs ⟨sa2, 0, sc2⟩ ⟨qa2, 0, qc2⟩)) (by simp) 2 _ rfl
  have d3 := K5.out.c (b := y4.heap.size) (T := 30) (vs := (x.cs ⟨sa2, 0, sc2⟩ ⟨qa2, 0, qc2⟩)) (by simp) 3 _ rfl
  have d4 := K5.out.c (b := y4.heap.size) (T := 30) (vs := (x.cs ⟨sa2, 0, sc2⟩ ⟨qa2, 0, qc2⟩)) (by simp) 4 _ rfl
  have d5 := K5.out.c (b := y4.heap.size) (T := 30) (vs := (x.cs ⟨sa2, 0, sc2⟩ ⟨qa2, 0, qc2⟩)) (by simp) 5 _ rfl
  have d6 := K5.out.c (b := y4.heap.size) (T := 30) (vs := (x.cs ⟨sa2, 0, sc2⟩ ⟨qa2, 0, qc2⟩)) (by simp) 6 _ rfl
  have d7 := K5.out.c (b := y4.heap.size) (T := 30) (vs := (x.cs ⟨sa2, 0, sc2⟩ ⟨qa2, 0, qc2⟩)) (by simp) 7 _ rfl
  go_wp2_with fail
  refine (markThing_none x sa2 qa2 sc2 qc2 1 _ (by decide) (by decide)).mono ?_
  rintro e y6 ⟨rfl, hb⟩
  have K6 := Lib.hid (K5.out.stay hb)
  clear hb K5
  clear d0 d1 d2 d3 d4 d5 d6 d7
  have d0 := K6.out.c (b := y4.heap.size) (T := 30) (vs := (x.cs ⟨sa2, 0, sc2⟩ ⟨qa2, 0, qc2⟩)) (by simp) 0 _ rfl
  have d1 := K6.out.c (b := y4.heap.size) (T := 30) (vs := (x.cs ⟨sa2, 0, sc2⟩ ⟨qa2, 0, qc2⟩)) (by simp) 1 _ rfl
  have d2 := K6.out.c (b := y4.heap.size) (T := 30) (vs := (x.cs ⟨sa2, 0, sc2⟩ ⟨qa2, 0, qc2⟩)) (by simp) 2 _ rfl
  have d3 := K6.out.c (b := y4.heap.size) (T := 30) (vs := (x.cs ⟨sa2, 0, sc2⟩ ⟨qa2, 0, qc2⟩)) (by simp) 3 _ rfl
  have d4 := K6.out.c (b := y4.heap.size) (T := 30) (vs := (x.cs ⟨sa2, 0, sc2⟩ ⟨qa2, 0, qc2⟩)) (by simp) 4 _ rfl
  have d5 := K6.out.c (b := y4.heap.size) (T := 30) (vs := (x.cs ⟨sa2, 0, sc2⟩ ⟨qa2, 0, qc2⟩)) (by simp) 5 _ rfl
  have d6 := K6.out.c (b := y4.heap.size) (T := 30) (vs := (x.cs ⟨sa2, 0, sc2⟩ ⟨qa2, 0, qc2⟩)) (by simp) 6 _ rfl
  have d7 := K6.out.c (b := y4.heap.size) (T := 30) (vs := (x.cs ⟨sa2, 0, sc2⟩ ⟨qa2, 0, qc2⟩)) (by simp) 7 _ rfl
  go_wp2_with fail
  refine (heldThing_none x sa2 qa2 sc2 qc2 1 _ (by decide) (by decide)).mono ?_
  rintro e y7 ⟨rfl, hb⟩
  have K7 := Lib.hid (K6.out.stay hb)
  clear hb K6
  clear d0 d1 d2 d3 d4 d5 d6 d7
  have l0 := K7.out.c (b := w.heap.size) (T := 50) (vs := #[.int .i64 sec, .int .i64 vou]) (by simp) 0 _ rfl
  have l1 := K7.out.c (b := w.heap.size) (T := 50) (vs := #[.int .i64 sec, .int .i64 vou]) (by simp) 1 _ rfl
  go_wp2_with fail
  refine (toLabel_any _ _ _).mono ?_
  rintro e y8 ⟨rfl, hb⟩
  have K8 := Lib.hid (K7.out.stay hb)
  clear hb K7 l0 l1
  go_wp2_with fail
  refine (HG.out _ (HKF.out.stay K8.out.1)).mono ?_
  rintro e y9 ⟨⟨sa3, qa3, sc3, qc3, rfl⟩, hb⟩
  have K9 := Lib.hid ((K8.out.stay hb).new 30 (x.cs ⟨sa3, 0, sc3⟩ ⟨qa3, 0, qc3⟩))
  clear hb K8
  have c0 := K9.out.c (b := y2.heap.size) (T := 30) (vs := (x.cs ⟨sa1, 0, sc1⟩ ⟨qa1, 0, qc1⟩)) (by simp) 0 _ rfl
  have c1 := K9.out.c (b := y2.heap.size) (T := 30) (vs := (x.cs ⟨sa1, 0, sc1⟩ ⟨qa1, 0, qc1⟩)) (by simp) 1 _ rfl
  have c2 := K9.out.c (b := y2.heap.size) (T := 30) (vs := (x.cs ⟨sa1, 0, sc1⟩ ⟨qa1, 0, qc1⟩)) (by simp) 2 _ rfl
  have c3 := K9.out.c (b := y2.heap.size) (T := 30) (vs := (x.cs ⟨sa1, 0, sc1⟩ ⟨qa1, 0, qc1⟩)) (by simp) 3 _ rfl
  have c4 := K9.out.c (b := y2.heap.size) (T := 30) (vs := (x.cs ⟨sa1, 0, sc1⟩ ⟨qa1, 0, qc1⟩)) (by simp) 4 _ rfl
  have c5 := K9.out.c (b := y2.heap.size) (T := 30) (vs := (x.cs ⟨sa1, 0, sc1⟩ ⟨qa1, 0, qc1⟩)) (by simp) 5 _ rfl
  have c6 := K9.out.c (b := y2.heap.size) (T := 30) (vs := (x.cs ⟨sa1, 0, sc1⟩ ⟨qa1, 0, qc1⟩)) (by simp) 6 _ rfl
  have c7 := K9.out.c (b := y2.heap.size) (T := 30) (vs := (x.cs ⟨sa1, 0, sc1⟩ ⟨qa1, 0, qc1⟩)) (by simp) 7 _ rfl
  have d0 := K9.out.c (b := y9.heap.size) (T := 30) (vs := (x.cs ⟨sa3, 0, sc3⟩ ⟨qa3, 0, qc3⟩)) (by simp) 0 _ rfl
  have d1 := K9.out.c (b := y9.heap.size) (T := 30) (vs := (x.cs ⟨sa3, 0, sc3⟩ ⟨qa3, 0, qc3⟩)) (by simp) 1 _ rfl
  have d2 := K9.out.c (b := y9.heap.size) (T := 30) (vs := (x.cs ⟨sa3, 0, sc3⟩ ⟨qa3, 0, qc3⟩)) (by simp) 2 _ rfl
  have d3 := K9.out.c (b := y9.heap.size) (T := 30) (vs := (x.cs ⟨sa3, 0, sc3⟩ ⟨qa3, 0, qc3⟩)) (by simp) 3 _ rfl
  have d4 := K9.out.c (b := y9.heap.size) (T := 30) (vs := (x.cs ⟨sa3, 0, sc3⟩ ⟨qa3, 0, qc3⟩)) (by simp) 4 _ rfl
  have d5 := K9.out.c (b := y9.heap.size) (T := 30) (vs := (x.cs ⟨sa3, 0, sc3⟩ ⟨qa3, 0, qc3⟩)) (by simp) 5 _ rfl
  have d6 := K9.out.c (b := y9.heap.size) (T := 30) (vs := (x.cs ⟨sa3, 0, sc3⟩ ⟨qa3, 0, qc3⟩)) (by simp) 6 _ rfl
  have d7 := K9.out.c (b := y9.heap.size) (T := 30) (vs := (x.cs ⟨sa3, 0, sc3⟩ ⟨qa3, 0, qc3⟩)) (by simp) 7 _ rfl
  go_wp2_with fail
  refine (eqThing_same x ⟨sa3, 0, sc3⟩ ⟨qa3, 0, qc3⟩ ⟨sa1, 0, sc1⟩ ⟨qa1, 0, qc1⟩ _ (nilR HS.out _ _ _) (nilQ HQ.out _ _ _) (nilR HS.out _ _ _) (nilQ HQ.out _ _ _) (by rw [HS.out]; decide) (by rw [HQ.out]; decide)).mono ?_
  rintro e z1 ⟨rfl, hb⟩
  have K10 := Lib.hid (K9.out.stay hb)
  clear hb K9
  clear c0 c1 c2 c3 c4 c5 c6 c7 d0 d1 d2 d3 d4 d5 d6 d7
  have d0 := K10.out.c (b := y4.heap.size) (T := 30) (vs := (x.cs ⟨sa2, 0, sc2⟩ ⟨qa2, 0, qc2⟩)) (by simp) 0 _ rfl
  have d1 := K10.out.c (b := y4.heap.size) (T := 30) (vs := (x.cs ⟨sa2, 0, sc2⟩ ⟨qa2, 0, qc2⟩)) (by simp) 1 _ rfl
  have d2 := K10.out.c (b := y4.heap.size) (T := 30) (vs := (x.cs ⟨sa2, 0, sc2⟩ ⟨qa2, 0, qc2⟩)) (by simp) 2 _ rfl
  have d3 := K10.out.c (b := y4.heap.size) (T := 30) (vs := (x.cs ⟨sa2, 0, sc2⟩ ⟨qa2, 0, qc2⟩)) (by simp) 3 _ rfl
  have d4 := K10.out.c (b := y4.heap.size) (T := 30) (vs := (x.cs ⟨sa2, 0, sc2⟩ ⟨qa2, 0, qc2⟩)) (by simp) 4 _ rfl
  have d5 := K10.out.c (b := y4.heap.size) (T := 30) (vs := (x.cs ⟨sa2, 0, sc2⟩ ⟨qa2, 0, qc2⟩)) (by simp) 5 _ rfl
  have d6 := K10.out.c (b := y4.heap.size) (T := 30) (vs := (x.cs ⟨sa2, 0, sc2⟩ ⟨qa2, 0, qc2⟩)) (by simp) 6 _ rfl
  have d7 := K10.out.c (b := y4.heap.size) (T := 30) (vs := (x.cs ⟨sa2, 0, sc2⟩ ⟨qa2, 0, qc2⟩)) (by simp) 7 _ rfl
  go_wp2_with fail
  refine (heldThing_none x sa2 qa2 sc2 qc2 1 _ (by decide) (by decide)).mono ?_
  rintro e z2 ⟨rfl, hb⟩
  have K11 := Lib.hid (K10.out.stay hb)
  clear hb K10
  clear d0 d1 d2 d3 d4 d5 d6 d7
  go_wp2
  go_ret
  exact ⟨rfl, K11.out.1⟩

set_option maxRecDepth 100000 in
set_option maxHeartbeats 4000000 in
theorem exTNew_none_false (kind sec vou tt : Int) (x : T8) (w : World) (hKF : KF w) (hs : x.slots = []) (hq : x.queue = [])
    (f : ∀ w, Calls Tryd.prog 16 #[.int .i64 kind, lab sec vou, .int .i64 tt] w (NonePost x false w)) (g : ∀ w, KF w → Calls Tryd.prog 17 #[.int .i64 kind, lab sec vou, .int .i64 tt] w (NonePost x false w)) :
    Calls Tryd.prog 11 #[.int .i64 kind, lab sec vou, .int .i64 tt] w fun e w' => e = .returned (.bool true) ∧ Below w.heap.size w w' := by
  have K0 := Lib.hid ((Kn.refl (w := w)).new 50 #[.int .i64 sec, .int .i64 vou])
  have HF := Lib.hid f
  have HG := Lib.hid g
  have HKF := Lib.hid hKF
  clear hKF
  have HS := Lib.hid hs
  have HQ := Lib.hid hq
  clear hs hq f g
  go_enter Tryd.func11, Tryd.ntmps11
  go_wp2_with fail
  refine (toLabel_any _ _ _).mono ?_
  rintro e y1 ⟨rfl, hb⟩
  have K1 := Lib.hid (K0.out.stay hb)
  clear hb K0
  go_wp2_with fail
  refine (HF.out _).mono ?_
  rintro e y2 ⟨⟨sa1, qa1, sc1, qc1, rfl⟩, hb⟩
  have K2 := Lib.hid ((K1.out.stay hb).new 30 (x.cs ⟨sa1, 0, sc1⟩ ⟨qa1, 0, qc1⟩))
  clear hb K1
  have l0 := K2.out.c (b := w.heap.size) (T := 50) (vs := #[.int .i64 sec, .int .i64 vou]) (by simp) 0 _ rfl
  have l1 := K2.out.c (b := w.heap.size) (T := 50) (vs := #[.int .i64 sec, .int .i64 vou]) (by simp) 1 _ rfl
  go_wp2_with fail
  refine (toLabel_any _ _ _).mono ?_
  rintro e y3 ⟨rfl, hb⟩
  have K3 := Lib.hid (K2.out.stay hb)
  clear hb K2 l0 l1
  go_wp2_with fail
  refine (HG.out _ (HKF.out.stay K3.out.1)).mono ?_
  rintro e y4 ⟨⟨sa2, qa2, sc2, qc2, rfl⟩, hb⟩
  have K4 := Lib.hid ((K3.out.stay hb).new 30 (x.cs ⟨sa2, 0, sc2⟩ ⟨qa2, 0, qc2⟩))
  clear hb K3
  have c0 := K4.out.c (b := y2.heap.size) (T := 30) (vs := (x.cs ⟨sa1, 0, sc1⟩ ⟨qa1, 0, qc1⟩)) (by simp) 0 _ rfl
  have c1 := K4.out.c (b := y2.heap.size) (T := 30) (vs := (x.cs ⟨sa1, 0, sc1⟩ ⟨qa1, 0, qc1⟩)) (by simp) 1 _ rfl
  have c2 := K4.out.c (b := y2.heap.size) (T := 30) (vs := (x.cs ⟨sa1, 0, sc1⟩ ⟨qa1, 0, qc1⟩)) (by simp) 2 _ rfl
  have c3 := K4.out.c (b := y2.heap.size) (T := 30) (vs := (x.cs ⟨sa1, 0, sc1⟩ ⟨qa1, 0, qc1⟩)) (by simp) 3 _ rfl
  have c4 := K4.out.c (b := y2.heap.size) (T := 30) (vs := (x.cs ⟨sa1, 0, sc1⟩ ⟨qa1, 0, qc1⟩)) (by simp) 4 _ rfl
  have c5 := K4.out.c (b := y2.heap.size) (T := 30) (vs := (x.cs ⟨sa1, 0, sc1⟩ ⟨qa1, 0, qc1⟩)) (by simp) 5 _ rfl
  have c6 := K4.out.c (b := y2.heap.size) (T := 30) (vs := (x.cs ⟨sa1, 0, sc1⟩ ⟨qa1, 0, qc1⟩)) (by simp) 6 _ rfl
  have c7 := K4.out.c (b := y2.heap.size) (T := 30) (vs := (x.cs ⟨sa1, 0, sc1⟩ ⟨qa1, 0, qc1⟩)) (by simp) 7 _ rfl
  have d0 := K4.out.c (b := y4.heap.size) (T := 30) (vs := (x.cs ⟨sa2, 0, sc2⟩ ⟨qa2, 0, qc2⟩)) (by simp) 0 _ rfl
  have d1 := K4.out.c (b := y4.heap.size) (T := 30) (vs := (x.cs ⟨sa2, 0, sc2⟩ ⟨qa2, 0, qc2⟩)) (by simp) 1 _ rfl
  have d2 := K4.out.c (b := y4.heap.size) (T := 30) (vs := (x.cs ⟨sa2, 0, sc2⟩ ⟨qa2, 0, qc2⟩)) (by simp) 2 _ rfl
  have d3 := K4.out.c (b := y4.heap.size) (T := 30) (vs := (x.cs ⟨sa2, 0, sc2⟩ ⟨qa2, 0, qc2⟩)) (by simp) 3 _ rfl
  have d4 := K4.out.c (b := y4.heap.size) (T := 30) (vs := (x.cs ⟨sa2, 0, sc2⟩ ⟨qa2, 0, qc2⟩)) (by simp) 4 _ rfl
  have d5 := K4.out.c (b := y4.heap.size) (T := 30) (vs := (x.cs ⟨sa2, 0, sc2⟩ ⟨qa2, 0, qc2⟩)) (by simp) 5 _ rfl
  have d6 := K4.out.c (b := y4.heap.size) (T := 30) (vs := (x.cs ⟨sa2, 0, sc2⟩ ⟨qa2, 0, qc2⟩)) (by simp) 6 _ rfl
  have d7 := K4.out.c (b := y4.heap.size) (T := 30) (vs := (x.cs ⟨sa2, 0, sc2⟩ ⟨qa2, 0, qc2⟩)) (by simp) 7 _ rfl
  go_wp2_with fail
  refine (eqThing_same x ⟨sa2, 0, sc2⟩ ⟨qa2, 0, qc2⟩ ⟨sa1, 0, sc1⟩ ⟨qa1, 0, qc1⟩ _ (nilR HS.out _ _ _) (nilQ HQ.out _ _ _) (nilR HS.out _ _ _) (nilQ HQ.out _ _ _) (by rw [HS.out]; decide) (by rw [HQ.out]; decide)).mono ?_
  rintro e y5 ⟨rfl, hb⟩
  have K5 := Lib.hid (K4.out.stay hb)
  clear hb K4
  clear c0 c1 c2 c3 c4 c5 c6 c7 d0 d1 d2 d3 d4 d5 d6 d7
  have d0 := K5.out.c (b := y4.heap.size) (T := 30) (vs := (x.cs ⟨sa2, 0, sc2⟩ ⟨qa2, 0, qc2⟩)) (by simp) 0 _ rfl
  have d1 := K5.out.c (b := y4.heap.size) (T := 30) (vs := (x.cs ⟨sa2, 0, sc2⟩ ⟨qa2, 0, qc2⟩)) (by simp) 1 _ rfl
  have d2 := K5.out.c (b := y4.heap.size) (T := 30) (vs := (x.cs ⟨sa2, 0, sc2⟩ ⟨qa2, 0, qc2⟩)) (by simp) 2 _ rfl
  have d3 := K5.out.c (b := y4.heap.size) (T := 30) (vs := (x.cs ⟨sa2, 0, sc2⟩ ⟨qa2, 0, qc2⟩)) (by simp) 3 _ rfl
  have d4 := K5.out.c (b := y4.heap.size) (T := 30) (vs := (x.cs ⟨sa2, 0, sc2⟩ ⟨qa2, 0, qc2⟩)) (by simp) 4 _ rfl
  have d5 := K5.out.c (b := y4.heap.size) (T := 30) (vs := (x.cs ⟨sa2, 0, sc2⟩ ⟨qa2, 0, qc2⟩)) (by simp) 5 _ rfl
  have d6 := K5.out.c (b := y4.heap.size) (T := 30) (vs := (x.cs ⟨sa2, 0, sc2⟩ ⟨qa2, 0, qc2⟩)) (by simp) 6 _ rfl
  have d7 := K5.out.c (b := y4.heap.size) (T := 30) (vs := (x.cs ⟨sa2, 0, sc2⟩ ⟨qa2, 0, qc2⟩)) (by simp) 7 _ rfl
  go_wp2_with fail
  refine (markThing_none x sa2 qa2 sc2 qc2 1 _ (by decide) (by decide)).mono ?_
  rintro e y6 ⟨rfl, hb⟩
  have K6 := Lib.hid (K5.out.stay hb)
  clear hb K5
  clear d0 d1 d2 d3 d4 d5 d6 d7
  have d0 := K6.out.c (b := y4.heap.size) (T := 30) (vs := (x.cs ⟨sa2, 0, sc2⟩ ⟨qa2, 0, qc2⟩)) (by simp) 0 _ rfl
  have d1 := K6.out.c (b := y4.heap.size) (T := 30) (vs := (x.cs ⟨sa2, 0, sc2⟩ ⟨qa2, 0, qc2⟩)) (by simp) 1 _ rfl
  have d2 := K6.out.c (b := y4.heap.size) (T := 30) (vs := (x.cs ⟨sa2, 0, sc2⟩ ⟨qa2, 0, qc2⟩)) (by simp) 2 _ rfl
  have d3 := K6.out.c (b := y4.heap.size) (T := 30) (vs := (x.cs ⟨sa2, 0, sc2⟩ ⟨qa2, 0, qc2⟩)) (by simp) 3 _ rfl
  have d4 := K6.out.c (b := y4.heap.size) (T := 30) (vs := (x.cs ⟨sa2, 0, sc2⟩ ⟨qa2, 0, qc2⟩)) (by simp) 4 _ rfl
  have d5 := K6.out.c (b := y4.heap.size) (T := 30) (vs := (x.cs ⟨sa2, 0, sc2⟩ ⟨qa2, 0, qc2⟩)) (by simp) 5 _ rfl
  have d6 := K6.out.c (b := y4.heap.size) (T := 30) (vs := (x.cs ⟨sa2, 0, sc2⟩ ⟨qa2, 0, qc2⟩)) (by simp) 6 _ rfl
  have d7 := K6.out.c (b := y4.heap.size) (T := 30) (vs := (x.cs ⟨sa2, 0, sc2⟩ ⟨qa2, 0, qc2⟩)) (by simp) 7 _ rfl
  go_wp2_with fail
  refine (heldThing_none x sa2 qa2 sc2 qc2 1 _ (by decide) (by decide)).mono ?_
  rintro e y7 ⟨rfl, hb⟩
  have K7 := Lib.hid (K6.out.stay hb)
  clear hb K6
  clear d0 d1 d2 d3 d4 d5 d6 d7
  have l0 := K7.out.c (b := w.heap.size) (T := 50) (vs := #[.int .i64 sec, .int .i64 vou]) (by simp) 0 _ rfl
  have l1 := K7.out.c (b := w.heap.size) (T := 50) (vs := #[.int .i64 sec, .int .i64 vou]) (by simp) 1 _ rfl
  go_wp2_with fail
  refine (toLabel_any _ _ _).mono ?_
  rintro e y8 ⟨rfl, hb⟩
  have K8 := Lib.hid (K7.out.stay hb)
  clear hb K7 l0 l1
  go_wp2_with fail
  refine (HG.out _ (HKF.out.stay K8.out.1)).mono ?_
  rintro e y9 ⟨⟨sa3, qa3, sc3, qc3, rfl⟩, hb⟩
  have K9 := Lib.hid ((K8.out.stay hb).new 30 (x.cs ⟨sa3, 0, sc3⟩ ⟨qa3, 0, qc3⟩))
  clear hb K8
  have c0 := K9.out.c (b := y2.heap.size) (T := 30) (vs := (x.cs ⟨sa1, 0, sc1⟩ ⟨qa1, 0, qc1⟩)) (by simp) 0 _ rfl
  have c1 := K9.out.c (b := y2.heap.size) (T := 30) (vs := (x.cs ⟨sa1, 0, sc1⟩ ⟨qa1, 0, qc1⟩)) (by simp) 1 _ rfl
  have c2 := K9.out.c (b := y2.heap.size) (T := 30) (vs := (x.cs ⟨sa1, 0, sc1⟩ ⟨qa1, 0, qc1⟩)) (by simp) 2 _ rfl
  have c3 := K9.out.c (b := y2.heap.size) (T := 30) (vs := (x.cs ⟨sa1, 0, sc1⟩ ⟨qa1, 0, qc1⟩)) (by simp) 3 _ rfl
  have c4 := K9.out.c (b := y2.heap.size) (T := 30) (vs := (x.cs ⟨sa1, 0, sc1⟩ ⟨qa1, 0, qc1⟩)) (by simp) 4 _ rfl
  have c5 := K9.out.c (b := y2.heap.size) (T := 30) (vs := (x.cs ⟨sa1, 0, sc1⟩ ⟨qa1, 0, qc1⟩)) (by simp) 5 _ rfl
  have c6 := K9.out.c (b := y2.heap.size) (T := 30) (vs := (x.cs ⟨sa1, 0, sc1⟩ ⟨qa1, 0, qc1⟩)) (by simp) 6 _ rfl
  have c7 := K9.out.c (b := y2.heap.size) (T := 30) (vs := (x.cs ⟨sa1, 0, sc1⟩ ⟨qa1, 0, qc1⟩)) (by simp) 7 _ rfl
  have d0 := K9.out.c (b := y9.heap.size) (T := 30) (vs := (x.cs ⟨sa3, 0, sc3⟩ ⟨qa3, 0, qc3⟩)) (by simp) 0 _ rfl
  have d1 := K9.out.c (b := y9.heap.size) (T := 30) (vs := (x.cs ⟨sa3, 0, sc3⟩ ⟨qa3, 0, qc3⟩)) (by simp) 1 _ rfl
  have d2 := K9.out.c (b := y9.heap.size) (T := 30) (vs := (x.cs ⟨sa3, 0, sc3⟩ ⟨qa3, 0, qc3⟩)) (by simp) 2 _ rfl
  have d3 := K9.out.c (b := y9.heap.size) (T := 30) (vs := (x.cs ⟨sa3, 0, sc3⟩ ⟨qa3, 0, qc3⟩)) (by simp) 3 _ rfl
  have d4 := K9.out.c (b := y9.heap.size) (T := 30) (vs := (x.cs ⟨sa3, 0, sc3⟩ ⟨qa3, 0, qc3⟩)) (by simp) 4 _ rfl
  have d5 := K9.out.c (b := y9.heap.size) (T := 30) (vs := (x.cs ⟨sa3, 0, sc3⟩ ⟨qa3, 0, qc3⟩)) (by simp) 5 _ rfl
  have d6 := K9.out.c (b := y9.heap.size) (T := 30) (vs := (x.cs ⟨sa3, 0, sc3⟩ ⟨qa3, 0, qc3⟩)) (by simp) 6 _ rfl
  have d7 := K9.out.c (b := y9.heap.size) (T := 30) (vs := (x.cs ⟨sa3, 0, sc3⟩ ⟨qa3, 0, qc3⟩)) (by simp) 7 _ rfl
  go_wp2_with fail
  refine (eqThing_same x ⟨sa3, 0, sc3⟩ ⟨qa3, 0, qc3⟩ ⟨sa1, 0, sc1⟩ ⟨qa1, 0, qc1⟩ _ (nilR HS.out _ _ _) (nilQ HQ.out _ _ _) (nilR HS.out _ _ _) (nilQ HQ.out _ _ _) (by rw [HS.out]; decide) (by rw [HQ.out]; decide)).mono ?_
  rintro e z1 ⟨rfl, hb⟩
  have K10 := Lib.hid (K9.out.stay hb)
  clear hb K9
  clear c0 c1 c2 c3 c4 c5 c6 c7 d0 d1 d2 d3 d4 d5 d6 d7
  have d0 := K10.out.c (b := y4.heap.size) (T := 30) (vs := (x.cs ⟨sa2, 0, sc2⟩ ⟨qa2, 0, qc2⟩)) (by simp) 0 _ rfl
  have d1 := K10.out.c (b := y4.heap.size) (T := 30) (vs := (x.cs ⟨sa2, 0, sc2⟩ ⟨qa2, 0, qc2⟩)) (by simp) 1 _ rfl
  have d2 := K10.out.c (b := y4.heap.size) (T := 30) (vs := (x.cs ⟨sa2, 0, sc2⟩ ⟨qa2, 0, qc2⟩)) (by simp) 2 _ rfl
  have d3 := K10.out.c (b := y4.heap.size) (T := 30) (vs := (x.cs ⟨sa2, 0, sc2⟩ ⟨qa2, 0, qc2⟩)) (by simp) 3 _ rfl
  have d4 := K10.out.c (b := y4.heap.size) (T := 30) (vs := (x.cs ⟨sa2, 0, sc2⟩ ⟨qa2, 0, qc2⟩)) (by simp) 4 _ rfl
  have d5 := K10.out.c (b := y4.heap.size) (T := 30) (vs := (x.cs ⟨sa2, 0, sc2⟩ ⟨qa2, 0, qc2⟩)) (by simp) 5 _ rfl
  have d6 := K10.out.c (b := y4.heap.size) (T := 30) (vs := (x.cs ⟨sa2, 0, sc2⟩ ⟨qa2, 0, qc2⟩)) (by simp) 6 _ rfl
  have d7 := K10.out.c (b := y4.heap.size) (T := 30) (vs := (x.cs ⟨sa2, 0, sc2⟩ ⟨qa2, 0, qc2⟩)) (by simp) 7 _ rfl
  go_wp2_with fail
  refine (heldThing_none x sa2 qa2 sc2 qc2 1 _ (by decide) (by decide)).mono ?_
  rintro e z2 ⟨rfl, hb⟩
  have K11 := Lib.hid (K10.out.stay hb)
  clear hb K10
  clear d0 d1 d2 d3 d4 d5 d6 d7
  go_wp2
  go_ret
  exact ⟨rfl, K11.out.1⟩

set_option maxRecDepth 100000 in
set_option maxHeartbeats 4000000 in
theorem exTNew_four (kind sec vou tt : Int) (x : T8) (w : World) (hKF : KF w) (hz : x.slots.length ≤ 1048576) (hq : x.queue = [])
    (f : ∀ w, Calls Tryd.prog 16 #[.int .i64 kind, lab sec vou, .int .i64 tt] w (FourPost x w)) (g : ∀ w, KF w → Calls Tryd.prog 17 #[.int .i64 kind, lab sec vou, .int .i64 tt] w (FourPost x w)) :
    Calls Tryd.prog 11 #[.int .i64 kind, lab sec vou, .int .i64 tt] w fun e w' => e = .returned (.bool true) ∧ Below w.heap.size w w' := by
  have K0 := Lib.hid ((Kn.refl (w := w)).new 50 #[.int .i64 sec, .int .i64 vou])
  have HF := Lib.hid f
  have HG := Lib.hid g
  have HKF := Lib.hid hKF
  clear hKF
  have HZ := Lib.hid hz
  have HQ := Lib.hid hq
  clear hz hq f g
  go_enter Tryd.func11, Tryd.ntmps11
  go_wp2_with fail
  refine (toLabel_any _ _ _).mono ?_
  rintro e y1 ⟨rfl, hb⟩
  have K1 := Lib.hid (K0.out.stay hb)
  clear hb K0
  go_wp2_with fail
  refine (HF.out _).mono ?_
  rintro e y2 ⟨⟨b1, qa1, qc1, TY1, hl, rfl, hr, hx⟩, hb⟩
  have K2 := Lib.hid ((K1.out.stay hb).new 30 (x.cs ⟨some ⟨b1, 0, none⟩, 4, 4⟩ ⟨qa1, 0, qc1⟩))
  clear hb K1
  have R1 := Lib.hid (hr.stay ((Below.refl _ _).alloc (Nat.le_refl _) (.cells (x.cs ⟨some ⟨b1, 0, none⟩, 4, 4⟩ ⟨qa1, 0, qc1⟩) 30)))
  have L1 := Lib.hid hl
  have P1 := Lib.hid (hx.stay ((Below.refl _ _).alloc (Nat.le_refl _) (.cells (x.cs ⟨some ⟨b1, 0, none⟩, 4, 4⟩ ⟨qa1, 0, qc1⟩) 30)))
  clear hr hl hx
  have l0 := K2.out.c (b := w.heap.size) (T := 50) (vs := #[.int .i64 sec, .int .i64 vou]) (by simp) 0 _ rfl
  have l1 := K2.out.c (b := w.heap.size) (T := 50) (vs := #[.int .i64 sec, .int .i64 vou]) (by simp) 1 _ rfl
  go_wp2_with fail
  refine (toLabel_any _ _ _).mono ?_
  rintro e y3 ⟨rfl, hb⟩
  have K3 := Lib.hid (K2.out.stay hb)
  have R1 := Lib.hid (R1.out.stay hb)
  clear hb K2 l0 l1
  go_wp2_with fail
  refine (HG.out _ (HKF.out.stay K3.out.1)).mono ?_
  rintro e y4 ⟨⟨b2, qa2, qc2, TY2, hl, rfl, hr, hx⟩, hb⟩
  have K4 := Lib.hid ((K3.out.stay hb).new 30 (x.cs ⟨some ⟨b2, 0, none⟩, 4, 4⟩ ⟨qa2, 0, qc2⟩))
  have HB := Lib.hid (hb.alloc hb.size (.cells (x.cs ⟨some ⟨b2, 0, none⟩, 4, 4⟩ ⟨qa2, 0, qc2⟩) 30))
  have RR := R1
  have R1 := Lib.hid (RR.out.stay HB.out)
  have N := Lib.hid (show y2.heap.size < b2 ∧ w.heap.size < b2 ∧ b2 < y4.heap.size ∧ w.heap.size ≤ y3.heap.size from
    ⟨Nat.lt_of_lt_of_le (K3.out.box (b := y2.heap.size) (T := 30) (vs := (x.cs ⟨some ⟨b1, 0, none⟩, 4, 4⟩ ⟨qa1, 0, qc1⟩)) (by simp)).lt hl, Nat.lt_of_lt_of_le (K3.out.box (b := w.heap.size) (T := 50) (vs := #[.int .i64 sec, .int .i64 vou]) (by simp)).lt hl, hx.lt, K3.out.1.size⟩)
  clear hb K3
  have R2 := Lib.hid (hr.stay ((Below.refl _ _).alloc (Nat.le_refl _) (.cells (x.cs ⟨some ⟨b2, 0, none⟩, 4, 4⟩ ⟨qa2, 0, qc2⟩) 30)))
  have L2 := Lib.hid hl
  have P2 := Lib.hid (hx.stay ((Below.refl _ _).alloc (Nat.le_refl _) (.cells (x.cs ⟨some ⟨b2, 0, none⟩, 4, 4⟩ ⟨qa2, 0, qc2⟩) 30)))
  clear hr hl hx
  have c0 := K4.out.c (b := y2.heap.size) (T := 30) (vs := (x.cs ⟨some ⟨b1, 0, none⟩, 4, 4⟩ ⟨qa1, 0, qc1⟩)) (by simp) 0 _ rfl
  have c1 := K4.out.c (b := y2.heap.size) (T := 30) (vs := (x.cs ⟨some ⟨b1, 0, none⟩, 4, 4⟩ ⟨qa1, 0, qc1⟩)) (by simp) 1 _ rfl
  have c2 := K4.out.c (b := y2.heap.size) (T := 30) (vs := (x.cs ⟨some ⟨b1, 0, none⟩, 4, 4⟩ ⟨qa1, 0, qc1⟩)) (by simp) 2 _ rfl
  have c3 := K4.out.c (b := y2.heap.size) (T := 30) (vs := (x.cs ⟨some ⟨b1, 0, none⟩, 4, 4⟩ ⟨qa1, 0, qc1⟩)) (by simp) 3 _ rfl
  have c4 := K4.out.c (b := y2.heap.size) (T := 30) (vs := (x.cs ⟨some ⟨b1, 0, none⟩, 4, 4⟩ ⟨qa1, 0, qc1⟩)) (by simp) 4 _ rfl
  have c5 := K4.out.c (b := y2.heap.size) (T := 30) (vs := (x.cs ⟨some ⟨b1, 0, none⟩, 4, 4⟩ ⟨qa1, 0, qc1⟩)) (by simp) 5 _ rfl
  have c6 := K4.out.c (b := y2.heap.size) (T := 30) (vs := (x.cs ⟨some ⟨b1, 0, none⟩, 4, 4⟩ ⟨qa1, 0, qc1⟩)) (by simp) 6 _ rfl
  have c7 := K4.out.c (b := y2.heap.size) (T := 30) (vs := (x.cs ⟨some ⟨b1, 0, none⟩, 4, 4⟩ ⟨qa1, 0, qc1⟩)) (by simp) 7 _ rfl
  have d0 := K4.out.c (b := y4.heap.size) (T := 30) (vs := (x.cs ⟨some ⟨b2, 0, none⟩, 4, 4⟩ ⟨qa2, 0, qc2⟩)) (by simp) 0 _ rfl
  have d1 := K4.out.c (b := y4.heap.size) (T := 30) (vs := (x.cs ⟨some ⟨b2, 0, none⟩, 4, 4⟩ ⟨qa2, 0, qc2⟩)) (by simp) 1 _ rfl
  have d2 := K4.out.c (b := y4.heap.size) (T := 30) (vs := (x.cs ⟨some ⟨b2, 0, none⟩, 4, 4⟩ ⟨qa2, 0, qc2⟩)) (by simp) 2 _ rfl
  have d3 := K4.out.c (b := y4.heap.size) (T := 30) (vs := (x.cs ⟨some ⟨b2, 0, none⟩, 4, 4⟩ ⟨qa2, 0, qc2⟩)) (by simp) 3 _ rfl
  have d4 := K4.out.c (b := y4.heap.size) (T := 30) (vs := (x.cs ⟨some ⟨b2, 0, none⟩, 4, 4⟩ ⟨qa2, 0, qc2⟩)) (by simp) 4 _ rfl
  have d5 := K4.out.c (b := y4.heap.size) (T := 30) (vs := (x.cs ⟨some ⟨b2, 0, none⟩, 4, 4⟩ ⟨qa2, 0, qc2⟩)) (by simp) 5 _ rfl
  have d6 := K4.out.c (b := y4.heap.size) (T := 30) (vs := (x.cs ⟨some ⟨b2, 0, none⟩, 4, 4⟩ ⟨qa2, 0, qc2⟩)) (by simp) 6 _ rfl
  have d7 := K4.out.c (b := y4.heap.size) (T := 30) (vs := (x.cs ⟨some ⟨b2, 0, none⟩, 4, 4⟩ ⟨qa2, 0, qc2⟩)) (by simp) 7 _ rfl
  go_wp2_with fail
  refine (eqThing_same x ⟨some ⟨b2, 0, none⟩, 4, 4⟩ ⟨qa2, 0, qc2⟩ ⟨some ⟨b1, 0, none⟩, 4, 4⟩ ⟨qa1, 0, qc1⟩ _ R2.out (nilQ HQ.out _ _ _) R1.out (nilQ HQ.out _ _ _) HZ.out (by rw [HQ.out]; decide)).mono ?_
  rintro e y5 ⟨rfl, hb⟩
  have K5 := Lib.hid (K4.out.stay hb)
  have P2 := Lib.hid (P2.out.stay hb)
  have HB := Lib.hid (HB.out.trans (hb.mono HB.out.size))
  clear hb K4
  clear c0 c1 c2 c3 c4 c5 c6 c7 d0 d1 d2 d3 d4 d5 d6 d7
  have d0 := K5.out.c (b := y4.heap.size) (T := 30) (vs := (x.cs ⟨some ⟨b2, 0, none⟩, 4, 4⟩ ⟨qa2, 0, qc2⟩)) (by simp) 0 _ rfl
  have d1 := K5.out.c (b := y4.heap.size) (T := 30) (vs := (x.cs ⟨some ⟨b2, 0, none⟩, 4, 4⟩ ⟨qa2, 0, qc2⟩)) (by simp) 1 _ rfl
  have d2 := K5.out.c (b := y4.heap.size) (T := 30) (vs := (x.cs ⟨some ⟨b2, 0, none⟩, 4, 4⟩ ⟨qa2, 0, qc2⟩)) (by simp) 2 _ rfl
  have d3 := K5.out.c (b := y4.heap.size) (T := 30) (vs := (x.cs ⟨some ⟨b2, 0, none⟩, 4, 4⟩ ⟨qa2, 0, qc2⟩)) (by simp) 3 _ rfl
  have d4 := K5.out.c (b := y4.heap.size) (T := 30) (vs := (x.cs ⟨some ⟨b2, 0, none⟩, 4, 4⟩ ⟨qa2, 0, qc2⟩)) (by simp) 4 _ rfl
  have d5 := K5.out.c (b := y4.heap.size) (T := 30) (vs := (x.cs ⟨some ⟨b2, 0, none⟩, 4, 4⟩ ⟨qa2, 0, qc2⟩)) (by simp) 5 _ rfl
  have d6 := K5.out.c (b := y4.heap.size) (T := 30) (vs := (x.cs ⟨some ⟨b2, 0, none⟩, 4, 4⟩ ⟨qa2, 0, qc2⟩)) (by simp) 6 _ rfl
  have d7 := K5.out.c (b := y4.heap.size) (T := 30) (vs := (x.cs ⟨some ⟨b2, 0, none⟩, 4, 4⟩ ⟨qa2, 0, qc2⟩)) (by simp) 7 _ rfl
  go_wp2_with fail
  refine (markThing_four x b2 qa2 qc2 1 y3.heap.size _ L2.out ⟨zr20, P2.out, rfl, fun i x hi => absurd hi (by omega)⟩ (by decide) (by decide)).mono ?_
  rintro e y6 ⟨rfl, hp, hb, ho⟩
  have K6 : Hid (Kn w _ y6) := Lib.hid ⟨K5.out.1.trans (hb.mono N.out.2.2.2), fun t ht => ho _ _ _ (by
    have := N.out
    simp at ht
    rcases ht with rfl | rfl | rfl <;> dsimp only <;> omega) (K5.out.2 t ht)⟩
  have HB := Lib.hid (HB.out.trans hb)
  have PT := Lib.hid hp
  clear hp ho P2
  clear hb K5
  clear d0 d1 d2 d3 d4 d5 d6 d7
  have d0 := K6.out.c (b := y4.heap.size) (T := 30) (vs := (x.cs ⟨some ⟨b2, 0, none⟩, 4, 4⟩ ⟨qa2, 0, qc2⟩)) (by simp) 0 _ rfl
  have d1 := K6.out.c (b := y4.heap.size) (T := 30) (vs := (x.cs ⟨some ⟨b2, 0, none⟩, 4, 4⟩ ⟨qa2, 0, qc2⟩)) (by simp) 1 _ rfl
  have d2 := K6.out.c (b := y4.heap.size) (T := 30) (vs := (x.cs ⟨some ⟨b2, 0, none⟩, 4, 4⟩ ⟨qa2, 0, qc2⟩)) (by simp) 2 _ rfl
  have d3 := K6.out.c (b := y4.heap.size) (T := 30) (vs := (x.cs ⟨some ⟨b2, 0, none⟩, 4, 4⟩ ⟨qa2, 0, qc2⟩)) (by simp) 3 _ rfl
  have d4 := K6.out.c (b := y4.heap.size) (T := 30) (vs := (x.cs ⟨some ⟨b2, 0, none⟩, 4, 4⟩ ⟨qa2, 0, qc2⟩)) (by simp) 4 _ rfl
  have d5 := K6.out.c (b := y4.heap.size) (T := 30) (vs := (x.cs ⟨some ⟨b2, 0, none⟩, 4, 4⟩ ⟨qa2, 0, qc2⟩)) (by simp) 5 _ rfl
  have d6 := K6.out.c (b := y4.heap.size) (T := 30) (vs := (x.cs ⟨some ⟨b2, 0, none⟩, 4, 4⟩ ⟨qa2, 0, qc2⟩)) (by simp) 6 _ rfl
  have d7 := K6.out.c (b := y4.heap.size) (T := 30) (vs := (x.cs ⟨some ⟨b2, 0, none⟩, 4, 4⟩ ⟨qa2, 0, qc2⟩)) (by simp) 7 _ rfl
  go_wp2_with fail
  refine (heldThing_four x b2 qa2 qc2 1 _ PT.out (by decide) (by decide)).mono ?_
  rintro e y7 ⟨rfl, hb⟩
  have K7 := Lib.hid (K6.out.stay hb)
  have HB := Lib.hid (HB.out.trans (hb.mono HB.out.size))
  have PT := Lib.hid (PT.out.stay hb)
  clear hb K6
  clear d0 d1 d2 d3 d4 d5 d6 d7
  have l0 := K7.out.c (b := w.heap.size) (T := 50) (vs := #[.int .i64 sec, .int .i64 vou]) (by simp) 0 _ rfl
  have l1 := K7.out.c (b := w.heap.size) (T := 50) (vs := #[.int .i64 sec, .int .i64 vou]) (by simp) 1 _ rfl
  go_wp2_with fail
  refine (toLabel_any _ _ _).mono ?_
  rintro e y8 ⟨rfl, hb⟩
  have K8 := Lib.hid (K7.out.stay hb)
  have HB := Lib.hid (HB.out.trans (hb.mono HB.out.size))
  have PT := Lib.hid (PT.out.stay hb)
  clear hb K7 l0 l1
  go_wp2_with fail
  refine (HG.out _ (HKF.out.stay K8.out.1)).mono ?_
  rintro e y9 ⟨⟨b3, qa3, qc3, TY3, hl, rfl, hr, hx⟩, hb⟩
  have K9 := Lib.hid ((K8.out.stay hb).new 30 (x.cs ⟨some ⟨b3, 0, none⟩, 4, 4⟩ ⟨qa3, 0, qc3⟩))
  have HB := Lib.hid (HB.out.trans (hb.mono HB.out.size))
  have PT := Lib.hid (PT.out.stay hb)
  have HB := Lib.hid (HB.out.alloc HB.out.size (.cells (x.cs ⟨some ⟨b3, 0, none⟩, 4, 4⟩ ⟨qa3, 0, qc3⟩) 30))
  have PT := Lib.hid (PT.out.stay ((Below.refl _ _).alloc (Nat.le_refl _) (.cells (x.cs ⟨some ⟨b3, 0, none⟩, 4, 4⟩ ⟨qa3, 0, qc3⟩) 30)))
  have R1 := Lib.hid (RR.out.stay HB.out)
  clear hb K8
  have R3 := Lib.hid (hr.stay ((Below.refl _ _).alloc (Nat.le_refl _) (.cells (x.cs ⟨some ⟨b3, 0, none⟩, 4, 4⟩ ⟨qa3, 0, qc3⟩) 30)))
  have L3 := Lib.hid hl
  have P3 := Lib.hid (hx.stay ((Below.refl _ _).alloc (Nat.le_refl _) (.cells (x.cs ⟨some ⟨b3, 0, none⟩, 4, 4⟩ ⟨qa3, 0, qc3⟩) 30)))
  clear hr hl hx
  have c0 := K9.out.c (b := y2.heap.size) (T := 30) (vs := (x.cs ⟨some ⟨b1, 0, none⟩, 4, 4⟩ ⟨qa1, 0, qc1⟩)) (by simp) 0 _ rfl
  have c1 := K9.out.c (b := y2.heap.size) (T := 30) (vs := (x.cs ⟨some ⟨b1, 0, none⟩, 4, 4⟩ ⟨qa1, 0, qc1⟩)) (by simp) 1 _ rfl
  have c2 := K9.out.c (b := y2.heap.size) (T := 30) (vs := (x.cs ⟨some ⟨b1, 0, none⟩, 4, 4⟩ ⟨qa1, 0, qc1⟩)) (by simp) 2 _ rfl
  have c3 := K9.out.c (b := y2.heap.size) (T := 30) (vs := (x.cs ⟨some ⟨b1, 0, none⟩, 4, 4⟩ ⟨qa1, 0, qc1⟩)) (by simp) 3 _ rfl
  have c4 := K9.out.c (b := y2.heap.size) (T := 30) (vs := (x.cs ⟨some ⟨b1, 0, none⟩, 4, 4⟩ ⟨qa1, 0, qc1⟩)) (by simp) 4 _ rfl
  have c5 := K9.out.c (b := y2.heap.size) (T := 30) (vs := (x.cs ⟨some ⟨b1, 0, none⟩, 4, 4⟩ ⟨qa1, 0, qc1⟩)) (by simp) 5 _ rfl
  have c6 := K9.out.c (b := y2.heap.size) (T := 30) (vs := (x.cs ⟨some ⟨b1, 0, none⟩, 4, 4⟩ ⟨qa1, 0, qc1⟩)) (by simp) 6 _ rfl
  have c7 := K9.out.c (b := y2.heap.size) (T := 30) (vs := (x.cs ⟨some ⟨b1, 0, none⟩, 4, 4⟩ ⟨qa1, 0, qc1⟩)) (by simp) 7 _ rfl
  have d0 := K9.out.c (b := y9.heap.size) (T := 30) (vs := (x.cs ⟨some ⟨b3, 0, none⟩, 4, 4⟩ ⟨qa3, 0, qc3⟩)) (by simp) 0 _ rfl
  have d1 := K9.out.c (b := y9.heap.size) (T := 30) (vs := (x.cs ⟨some ⟨b3, 0, none⟩, 4, 4⟩ ⟨qa3, 0, qc3⟩)) (by simp) 1 _ rfl
  have d2 := K9.out.c (b := y9.heap.size) (T := 30) (vs := (x.cs ⟨some ⟨b3, 0, none⟩, 4, 4⟩ ⟨qa3, 0, qc3⟩)) (by simp) 2 _ rfl
  have d3 := K9.out.c (b := y9.heap.size) (T := 30) (vs := (x.cs ⟨some ⟨b3, 0, none⟩, 4, 4⟩ ⟨qa3, 0, qc3⟩)) (by simp) 3 _ rfl
  have d4 := K9.out.c (b := y9.heap.size) (T := 30) (vs := (x.cs ⟨some ⟨b3, 0, none⟩, 4, 4⟩ ⟨qa3, 0, qc3⟩)) (by simp) 4 _ rfl
  have d5 := K9.out.c (b := y9.heap.size) (T := 30) (vs := (x.cs ⟨some ⟨b3, 0, none⟩, 4, 4⟩ ⟨qa3, 0, qc3⟩)) (by simp) 5 _ rfl
  have d6 := K9.out.c (b := y9.heap.size) (T := 30) (vs := (x.cs ⟨some ⟨b3, 0, none⟩, 4, 4⟩ ⟨qa3, 0, qc3⟩)) (by simp) 6 _ rfl
  have d7 := K9.out.c (b := y9.heap.size) (T := 30) (vs := (x.cs ⟨some ⟨b3, 0, none⟩, 4, 4⟩ ⟨qa3, 0, qc3⟩)) (by simp) 7 _ rfl
  go_wp2_with fail
  refine (eqThing_same x ⟨some ⟨b3, 0, none⟩, 4, 4⟩ ⟨qa3, 0, qc3⟩ ⟨some ⟨b1, 0, none⟩, 4, 4⟩ ⟨qa1, 0, qc1⟩ _ R3.out (nilQ HQ.out _ _ _) R1.out (nilQ HQ.out _ _ _) HZ.out (by rw [HQ.out]; decide)).mono ?_
  rintro e z1 ⟨rfl, hb⟩
  have K10 := Lib.hid (K9.out.stay hb)
  have HB := Lib.hid (HB.out.trans (hb.mono HB.out.size))
  have PT := Lib.hid (PT.out.stay hb)
  clear hb K9
  clear c0 c1 c2 c3 c4 c5 c6 c7 d0 d1 d2 d3 d4 d5 d6 d7
  have d0 := K10.out.c (b := y4.heap.size) (T := 30) (vs := (x.cs ⟨some ⟨b2, 0, none⟩, 4, 4⟩ ⟨qa2, 0, qc2⟩)) (by simp) 0 _ rfl
  have d1 := K10.out.c (b := y4.heap.size) (T := 30) (vs := (x.cs ⟨some ⟨b2, 0, none⟩, 4, 4⟩ ⟨qa2, 0, qc2⟩)) (by simp) 1 _ rfl
  have d2 := K10.out.c (b := y4.heap.size) (T := 30) (vs := (x.cs ⟨some ⟨b2, 0, none⟩, 4, 4⟩ ⟨qa2, 0, qc2⟩)) (by simp) 2 _ rfl
  have d3 := K10.out.c (b := y4.heap.size) (T := 30) (vs := (x.cs ⟨some ⟨b2, 0, none⟩, 4, 4⟩ ⟨qa2, 0, qc2⟩)) (by simp) 3 _ rfl
  have d4 := K10.out.c (b := y4.heap.size) (T := 30) (vs := (x.cs ⟨some ⟨b2, 0, none⟩, 4, 4⟩ ⟨qa2, 0, qc2⟩)) (by simp) 4 _ rfl
  have d5 := K10.out.c (b := y4.heap.size) (T := 30) (vs := (x.cs ⟨some ⟨b2, 0, none⟩, 4, 4⟩ ⟨qa2, 0, qc2⟩)) (by simp) 5 _ rfl
  have d6 := K10.out.c (b := y4.heap.size) (T := 30) (vs := (x.cs ⟨some ⟨b2, 0, none⟩, 4, 4⟩ ⟨qa2, 0, qc2⟩)) (by simp) 6 _ rfl
  have d7 := K10.out.c (b := y4.heap.size) (T := 30) (vs := (x.cs ⟨some ⟨b2, 0, none⟩, 4, 4⟩ ⟨qa2, 0, qc2⟩)) (by simp) 7 _ rfl
  go_wp2_with fail
  refine (heldThing_four x b2 qa2 qc2 1 _ PT.out (by decide) (by decide)).mono ?_
  rintro e z2 ⟨rfl, hb⟩
  have K11 := Lib.hid (K10.out.stay hb)
  clear hb K10
  clear d0 d1 d2 d3 d4 d5 d6 d7
  go_wp2
  go_ret
  exact ⟨rfl, K11.out.1⟩

/-- The two shapes of what ThingNew leaves. -/
theorem newPost_bad {kind sec vou tt : Int} {w w' : World} {e : Ending} (h : NewPost kind sec vou tt w e w') (ho : okT (newT kind sec vou tt) = false) : NonePost zeroT false w e w' := by
  rcases h with ⟨h | h, hb⟩
  · exact ⟨⟨none, none, 0, 0, h.2⟩, hb⟩
  · exact absurd (ho.symm.trans h.1) (by decide)
theorem newPost_none {kind sec vou tt : Int} {w w' : World} {e : Ending} (h : NewPost kind sec vou tt w e w') (ho : okT (newT kind sec vou tt) = true) (hk : hasS kind = false) : NonePost (newT kind sec vou tt) true w e w' := by
  rcases h with ⟨h | ⟨-, s, q, he, hr, hq, -⟩, hb⟩
  · exact absurd (ho.symm.trans h.1) (by decide)
  · have h1 : s.n = 0 := by rw [hr.len]; show (if hasS kind then _ else _ : List R5).length = 0; rw [hk]; rfl
    have h2 : q.n = 0 := hq.len
    obtain ⟨sa, sn, sc⟩ := s
    obtain ⟨qa, qn, qc⟩ := q
    obtain rfl : sn = 0 := h1
    obtain rfl : qn = 0 := h2
    exact ⟨⟨sa, qa, sc, qc, he⟩, hb⟩
theorem newPost_four {kind sec vou tt : Int} {w w' : World} {e : Ending} (h : NewPost kind sec vou tt w e w') (ho : okT (newT kind sec vou tt) = true) (hk : hasS kind = true) : FourPost (newT kind sec vou tt) w e w' := by
  rcases h with ⟨h | ⟨-, s, q, he, hr, hq, hf, -⟩, hb⟩
  · exact absurd (ho.symm.trans h.1) (by decide)
  · have h2 : q.n = 0 := hq.len
    obtain ⟨b, TY, hl, rfl, bx⟩ := hf hk
    obtain ⟨qa, qn, qc⟩ := q
    obtain rfl : qn = 0 := h2
    exact ⟨⟨b, qa, qc, TY, hl, he, hr, bx⟩, hb⟩
theorem exTNew_any (kind sec vou tt : Int) (w : World) (hKF : KF w) (G : ∀ w, KF w → Calls Tryd.prog 17 #[.int .i64 kind, lab sec vou, .int .i64 tt] w (NewPost kind sec vou tt w)) :
    Calls Tryd.prog 11 #[.int .i64 kind, lab sec vou, .int .i64 tt] w fun e w' => e = .returned (.bool true) ∧ Below w.heap.size w w' := by
  have F := specTNew_any kind sec vou tt
  cases ho : okT (newT kind sec vou tt)
  · exact exTNew_none_false kind sec vou tt zeroT w hKF rfl rfl (fun w => (F w).mono fun e w' h => newPost_bad h ho) (fun w hw => (G w hw).mono fun e w' h => newPost_bad h ho)
  · cases hk : hasS kind
    · exact exTNew_none_true kind sec vou tt _ w hKF (by show (if hasS kind then _ else _ : List R5) = []; rw [hk]; rfl) rfl (fun w => (F w).mono fun e w' h => newPost_none h ho hk) (fun w hw => (G w hw).mono fun e w' h => newPost_none h ho hk)
    · exact exTNew_four kind sec vou tt _ w hKF (by show (if hasS kind then _ else _ : List R5).length ≤ _; rw [hk]; decide) rfl (fun w => (F w).mono fun e w' h => newPost_four h ho hk) (fun w hw => (G w hw).mono fun e w' h => newPost_four h ho hk)
end Go.Proofs.YtnfalnmidddkjaaDoor
