/-
  The program's parseRight and RightRead.
-/
import Derived.Test.YthbeiigiffnhjaaDoorRigP2
import Derived.Test.YthbeiigiffnhjaaDoorRigM
import Derived.Test.YthbeiigiffnhjaaDoorRigW
import Derived.Test.YthbeiigiffnhjaaDoorErrIs
namespace Go.Proofs.YthbeiigiffnhjaaDoor
open Go.RowKit
set_option linter.unusedVariables false

/-- The text of a right to something, taken apart. -/
theorem fields_true (t v : Int) (r wr k : Bool) (ho : okR t v r wr k = true) (ht : ¬ t = 0) (a : Addr) (es er : Value) (w : World) (hv : Vs a es er w) :
    Calls Tryd.prog 25 #[.string (txtR t v r wr k)] w fun e w' => e = .returned (.tuple #[rgt t v r wr k, .nilIface]) ∧ Below w.heap.size w w' := by
  obtain ⟨a1, a2, a3, a4⟩ := okR_bd ho ht
  rw [txtR_some ho ht]
  have hd : ((48 + t.toNat).toUInt8 == 46) = false := by
    rcases ten t (by omega) (by omega) with rfl | rfl | rfl | rfl | rfl | rfl | rfl | rfl | rfl | rfl <;> rfl
  have hi : Lib.indexByte (txtR6 t v r wr k).data.toList 46 = ((1 : Nat) : Int) := by
    show (if ((48 + t.toNat).toUInt8 == 46) = true then (0 : Int) else if (Lib.indexByte (46 :: [(48 + v.toNat).toUInt8, bif r then 114 else 45, bif wr then 119 else 45, bif k then 107 else 45]) 46 == -1) = true then -1 else Lib.indexByte (46 :: [(48 + v.toNat).toUInt8, bif r then 114 else 45, bif wr then 119 else 45, bif k then 107 else 45]) 46 + 1) = 1
    rw [hd]
    rfl
  refine (fields_gen (txtR6 t v r wr k) 1 a es er hi (by show 1 < 6; decide) (by show 6 ≤ _; decide) (dig t) ⟨#[(48 + v.toNat).toUInt8, bif r then 114 else 45, bif wr then 119 else 45, bif k then 107 else 45]⟩ (dig v) ⟨#[bif r then 114 else 45, bif wr then 119 else 45, bif k then 107 else 45]⟩ rfl rfl (by show 3 ≤ 4; decide) rfl rfl (by show 0 < 3; decide) (by show 1 < 3; decide) (by show 2 < 3; decide)
    False False (fun n => n = t) (fun n => n = v)
    (fun x _ => (num_dig t (by omega) (by omega) x).mono fun e x' h => ⟨.inr ⟨t, h.1, rfl⟩, h.2⟩)
    (fun x _ => (num_dig v (by omega) (by omega) x).mono fun e x' h => ⟨.inr ⟨v, h.1, rfl⟩, h.2⟩) w hv).mono ?_
  rintro e w' ⟨⟨_, hf⟩ | ⟨p, q, rfl, rfl, rfl⟩, hb⟩
  · exact absurd hf (by simp)
  · refine ⟨?_, hb⟩
    have e3 : (((bif r then 114 else 45 : UInt8).toNat : Int) == 114) = r := bif8 r 114 114 rfl (by decide)
    have e4 : (((bif wr then 119 else 45 : UInt8).toNat : Int) == 119) = wr := bif8 wr 119 119 rfl (by decide)
    have e5 : (((bif k then 107 else 45 : UInt8).toNat : Int) == 107) = k := bif8 k 107 107 rfl (by decide)
    show Ending.returned (.tuple #[rgt p q (((bif r then 114 else 45 : UInt8).toNat : Int) == 114) (((bif wr then 119 else 45 : UInt8).toNat : Int) == 119) (((bif k then 107 else 45 : UInt8).toNat : Int) == 107), .nilIface]) = _
    rw [e3, e4, e5]

/-- A text of no right: an error, or a right whose text is another one. -/
theorem fields_false (s : ByteArray) (hz : s.size ≤ 1048576) (hn : ∀ t v r wr k, okR t v r wr k = true → txtR t v r wr k ≠ s) (a : Addr) (es er : Value) (w : World) (hv : Vs a es er w) :
    Calls Tryd.prog 25 #[.string s] w fun e w' => (e = .returned (.tuple #[rgt 0 0 false false false, bad a]) ∨ ∃ t v r wr k, e = .returned (.tuple #[rgt t v r wr k, .nilIface]) ∧ ((txtR t v r wr k).toList == s.toList) = false) ∧ Below w.heap.size w w' := by
  rcases dot_at s with h | ⟨o, h, ho⟩
  · exact (fields_none s a es er h w hv).mono fun e w' h => ⟨.inl h.1, h.2⟩
  by_cases h3 : 3 ≤ (s.extract (o + 1) s.size).size
  · have hl3 : ((s.extract (o + 1) s.size).extract ((s.extract (o + 1) s.size).size - 3) (s.extract (o + 1) s.size).size).size = 3 := by rw [ByteArray.size_extract]; omega
    refine (fields_gen s o a es er h ho hz _ _ _ _ rfl rfl h3 rfl rfl (by omega) (by omega) (by omega) True True (fun _ => True) (fun _ => True)
      (fun x hx => (num_any _ a es er (by rw [ByteArray.size_extract]; omega) x hx).mono ?_)
      (fun x hx => (num_any _ a es er (by rw [ByteArray.size_extract, ByteArray.size_extract]; omega) x hx).mono ?_) w hv).mono ?_
    · rintro e x' ⟨h | ⟨n, h⟩, hb⟩
      · exact ⟨.inl ⟨h, trivial⟩, hb⟩
      · exact ⟨.inr ⟨n, h, trivial⟩, hb⟩
    · rintro e x' ⟨h | ⟨n, h⟩, hb⟩
      · exact ⟨.inl ⟨h, trivial⟩, hb⟩
      · exact ⟨.inr ⟨n, h, trivial⟩, hb⟩
    · rintro e w' ⟨⟨h1, _⟩ | ⟨p, q, h1, _, _⟩, hb⟩
      · exact ⟨.inl h1, hb⟩
      · refine ⟨.inr ⟨p, q, _, _, _, h1, ?_⟩, hb⟩
        generalize ((_ : Int) == 114) = x
        generalize ((_ : Int) == 119) = y
        generalize ((_ : Int) == 107) = z
        cases hc : ((txtR p q x y z).toList == s.toList) with
        | false => rfl
        | true =>
          have e1 := toList_eq hc
          cases hk : okR p q x y z with
          | true => exact absurd e1 (hn _ _ _ _ _ hk)
          | false =>
            rw [txtR_bad hk] at e1
            rw [← e1] at ho
            exact absurd ho (by show ¬ o < 0; omega)
  · exact (fields_short s o a es er h ho hz _ rfl (by omega) w hv).mono fun e w' h => ⟨.inl h.1, h.2⟩

set_option maxHeartbeats 1000000 in
theorem parse_dash (s : ByteArray) (h : (s.toList == [45]) = true) (w : World) :
    Calls Tryd.prog 20 #[.string s] w fun e w' => e = .returned (.tuple #[rgt 0 0 false false false, .nilIface]) ∧ Below w.heap.size w w' := by
  go_enter Tryd.func20, Tryd.ntmps20
  go_wp2
  refine bodyPost_ret (v := .tuple #[rgt 0 0 false false false, .nilIface]) (by simp [results, Tryd.results20, go_sem]) rfl ⟨rfl, ?_⟩
  exact (Below.refl _ _).alloc (Nat.le_refl _) _

set_option maxHeartbeats 2000000 in
theorem parse_true (s : ByteArray) (hd : (s.toList == [45]) = false) (t v : Int) (r wr k : Bool) (ho : okR t v r wr k = true) (ht : ¬ t = 0) (hs : txtR t v r wr k = s) (a : Addr) (es er : Value) (w : World) (hv : Vs a es er w) :
    Calls Tryd.prog 20 #[.string s] w fun e w' => e = .returned (.tuple #[rgt t v r wr k, .nilIface]) ∧ Below w.heap.size w w' := by
  have K0 := (Kn.refl (w := w)).new 24 (rgtC 0 0 false false false)
  have H := Lib.hid (fields_true t v r wr k ho ht a es er _ (hv.on K0.1))
  rw [hs] at H
  have HS := Lib.hid hs
  clear hs ho ht hv
  go_enter Tryd.func20, Tryd.ntmps20
  go_wp2_with fail
  refine H.out.mono ?_
  rintro e x ⟨rfl, hb⟩
  have K1 := (K0.stay hb).new 24 (rgtC t v r wr k)
  clear K0 hb H
  go_wp2_with fail
  refine (implRText_val HS.out _).mono ?_
  rintro e y ⟨rfl, hb⟩
  have K2 := K1.stay hb
  have c0 := K2.c (b := w.heap.size) (T := 24) (vs := rgtC 0 0 false false false) (by simp) 0 _ rfl
  have cf0 := K2.f (b := w.heap.size) (T := 24) (vs := rgtC 0 0 false false false) (by simp) 0
  have c1 := K2.c (b := w.heap.size) (T := 24) (vs := rgtC 0 0 false false false) (by simp) 1 _ rfl
  have cf1 := K2.f (b := w.heap.size) (T := 24) (vs := rgtC 0 0 false false false) (by simp) 1
  have c2 := K2.c (b := w.heap.size) (T := 24) (vs := rgtC 0 0 false false false) (by simp) 2 _ rfl
  have cf2 := K2.f (b := w.heap.size) (T := 24) (vs := rgtC 0 0 false false false) (by simp) 2
  have c3 := K2.c (b := w.heap.size) (T := 24) (vs := rgtC 0 0 false false false) (by simp) 3 _ rfl
  have cf3 := K2.f (b := w.heap.size) (T := 24) (vs := rgtC 0 0 false false false) (by simp) 3
  have c4 := K2.c (b := w.heap.size) (T := 24) (vs := rgtC 0 0 false false false) (by simp) 4 _ rfl
  have cf4 := K2.f (b := w.heap.size) (T := 24) (vs := rgtC 0 0 false false false) (by simp) 4
  have d0 := K2.c (b := x.heap.size) (T := 24) (vs := rgtC t v r wr k) (by simp) 0 _ rfl
  have d1 := K2.c (b := x.heap.size) (T := 24) (vs := rgtC t v r wr k) (by simp) 1 _ rfl
  have d2 := K2.c (b := x.heap.size) (T := 24) (vs := rgtC t v r wr k) (by simp) 2 _ rfl
  have d3 := K2.c (b := x.heap.size) (T := 24) (vs := rgtC t v r wr k) (by simp) 3 _ rfl
  have d4 := K2.c (b := x.heap.size) (T := 24) (vs := rgtC t v r wr k) (by simp) 4 _ rfl
  clear K1 hb
  go_wp2
  refine bodyPost_ret (v := .tuple #[rgt t v r wr k, .nilIface]) (by simp [results, Tryd.results20, go_sem, *]) rfl ⟨rfl, ?_⟩
  repeat (first | exact K2.1 | refine Below.setCell ?_ (by dsimp only; omega) _)

set_option maxHeartbeats 2000000 in
theorem parse_false (s : ByteArray) (hd : (s.toList == [45]) = false) (hz : s.size ≤ 1048576) (hn : ∀ t v r wr k, okR t v r wr k = true → txtR t v r wr k ≠ s) (a : Addr) (es er : Value) (w : World) (hv : Vs a es er w) :
    Calls Tryd.prog 20 #[.string s] w fun e w' => e = .returned (.tuple #[rgt 0 0 false false false, bad a]) ∧ Below w.heap.size w w' := by
  have K0 := (Kn.refl (w := w)).new 24 (rgtC 0 0 false false false)
  have H := Lib.hid (fields_false s hz hn a es er _ (hv.on K0.1))
  have HV := Lib.hid hv
  clear hn hv hz
  go_enter Tryd.func20, Tryd.ntmps20
  go_wp2_with fail
  refine H.out.mono ?_
  rintro e x ⟨rfl | ⟨t, v, r, wr, k, rfl, hx⟩, hb⟩
  · have K1 := (K0.stay hb).new 24 (rgtC 0 0 false false false)
    have c0 := K1.c (b := w.heap.size) (T := 24) (vs := rgtC 0 0 false false false) (by simp) 0 _ rfl
    have cf0 := K1.f (b := w.heap.size) (T := 24) (vs := rgtC 0 0 false false false) (by simp) 0
    have c1 := K1.c (b := w.heap.size) (T := 24) (vs := rgtC 0 0 false false false) (by simp) 1 _ rfl
    have cf1 := K1.f (b := w.heap.size) (T := 24) (vs := rgtC 0 0 false false false) (by simp) 1
    have c2 := K1.c (b := w.heap.size) (T := 24) (vs := rgtC 0 0 false false false) (by simp) 2 _ rfl
    have cf2 := K1.f (b := w.heap.size) (T := 24) (vs := rgtC 0 0 false false false) (by simp) 2
    have c3 := K1.c (b := w.heap.size) (T := 24) (vs := rgtC 0 0 false false false) (by simp) 3 _ rfl
    have cf3 := K1.f (b := w.heap.size) (T := 24) (vs := rgtC 0 0 false false false) (by simp) 3
    have c4 := K1.c (b := w.heap.size) (T := 24) (vs := rgtC 0 0 false false false) (by simp) 4 _ rfl
    have cf4 := K1.f (b := w.heap.size) (T := 24) (vs := rgtC 0 0 false false false) (by simp) 4
    clear K0 hb H
    go_wp2
    refine bodyPost_ret (v := .tuple #[rgt 0 0 false false false, bad a]) (by simp [results, Tryd.results20, go_sem, *]) rfl ⟨rfl, ?_⟩
    repeat (first | exact K1.1 | refine Below.setCell ?_ (by dsimp only; omega) _)
  · have K1 := (K0.stay hb).new 24 (rgtC t v r wr k)
    obtain ⟨u, hu⟩ : ∃ u, txtR t v r wr k = u := ⟨_, rfl⟩
    rw [hu] at hx
    have HU := Lib.hid hu
    clear K0 hb H hu
    go_wp2_with fail
    refine (implRText_val HU.out _).mono ?_
    rintro e y ⟨rfl, hb⟩
    have K2 := K1.stay hb
    have hm := (HV.out.on K2.1).m
    have h7 := HV.out.z
    have n0 : w.heap.size ≠ 0 := by omega
    have n1 : 0 ≠ w.heap.size := by omega
    have c0 := K2.c (b := w.heap.size) (T := 24) (vs := rgtC 0 0 false false false) (by simp) 0 _ rfl
    have cf0 := K2.f (b := w.heap.size) (T := 24) (vs := rgtC 0 0 false false false) (by simp) 0
    have c1 := K2.c (b := w.heap.size) (T := 24) (vs := rgtC 0 0 false false false) (by simp) 1 _ rfl
    have cf1 := K2.f (b := w.heap.size) (T := 24) (vs := rgtC 0 0 false false false) (by simp) 1
    have c2 := K2.c (b := w.heap.size) (T := 24) (vs := rgtC 0 0 false false false) (by simp) 2 _ rfl
    have cf2 := K2.f (b := w.heap.size) (T := 24) (vs := rgtC 0 0 false false false) (by simp) 2
    have c3 := K2.c (b := w.heap.size) (T := 24) (vs := rgtC 0 0 false false false) (by simp) 3 _ rfl
    have cf3 := K2.f (b := w.heap.size) (T := 24) (vs := rgtC 0 0 false false false) (by simp) 3
    have c4 := K2.c (b := w.heap.size) (T := 24) (vs := rgtC 0 0 false false false) (by simp) 4 _ rfl
    have cf4 := K2.f (b := w.heap.size) (T := 24) (vs := rgtC 0 0 false false false) (by simp) 4
    clear K1 hb HU h7 HV
    go_wp2_with fail
    go_region
    go_wp2
    refine bodyPost_ret (v := .tuple #[rgt 0 0 false false false, bad a]) (by simp [results, Tryd.results20, go_sem, *]) rfl ⟨rfl, ?_⟩
    refine Below.drew ?_
    repeat (first | exact K2.1 | refine Below.setCell ?_ (by dsimp only; omega) _)

set_option maxHeartbeats 2000000 in
theorem read_true (s : ByteArray) (t v : Int) (r wr k : Bool) (a : Addr) (es er : Value) (w : World) (hv : Vs a es er w)
    (HC : Hid (∀ x, Vs a es er x → Calls Tryd.prog 20 #[.string s] x fun e x' => e = .returned (.tuple #[rgt t v r wr k, .nilIface]) ∧ Below x.heap.size x x')) :
    Calls Tryd.prog 9 #[.string s] w fun e w' => e = .returned (.tuple #[rgt t v r wr k, .bool true]) ∧ Below w.heap.size w w' := by
  have K0 := (Kn.refl (w := w)).new 24 (rgtC 0 0 false false false)
  have HV := Lib.hid hv
  clear hv
  go_enter Tryd.func9, Tryd.ntmps9
  go_wp2_with fail
  refine (HC.out _ (HV.out.on K0.1)).mono ?_
  rintro e x ⟨rfl, hb⟩
  have K1 := (K0.stay hb).new 24 (rgtC t v r wr k)
  have hm := (HV.out.on K1.1).m
  clear K0 hb HC
  go_wp2_with fail
  refine (is_none a _).mono ?_
  rintro e y ⟨rfl, rfl⟩
  have c0 := K1.c (b := w.heap.size) (T := 24) (vs := rgtC 0 0 false false false) (by simp) 0 _ rfl
  have cf0 := K1.f (b := w.heap.size) (T := 24) (vs := rgtC 0 0 false false false) (by simp) 0
  have c1 := K1.c (b := w.heap.size) (T := 24) (vs := rgtC 0 0 false false false) (by simp) 1 _ rfl
  have cf1 := K1.f (b := w.heap.size) (T := 24) (vs := rgtC 0 0 false false false) (by simp) 1
  have c2 := K1.c (b := w.heap.size) (T := 24) (vs := rgtC 0 0 false false false) (by simp) 2 _ rfl
  have cf2 := K1.f (b := w.heap.size) (T := 24) (vs := rgtC 0 0 false false false) (by simp) 2
  have c3 := K1.c (b := w.heap.size) (T := 24) (vs := rgtC 0 0 false false false) (by simp) 3 _ rfl
  have cf3 := K1.f (b := w.heap.size) (T := 24) (vs := rgtC 0 0 false false false) (by simp) 3
  have c4 := K1.c (b := w.heap.size) (T := 24) (vs := rgtC 0 0 false false false) (by simp) 4 _ rfl
  have cf4 := K1.f (b := w.heap.size) (T := 24) (vs := rgtC 0 0 false false false) (by simp) 4
  have d0 := K1.c (b := x.heap.size) (T := 24) (vs := rgtC t v r wr k) (by simp) 0 _ rfl
  have d1 := K1.c (b := x.heap.size) (T := 24) (vs := rgtC t v r wr k) (by simp) 1 _ rfl
  have d2 := K1.c (b := x.heap.size) (T := 24) (vs := rgtC t v r wr k) (by simp) 2 _ rfl
  have d3 := K1.c (b := x.heap.size) (T := 24) (vs := rgtC t v r wr k) (by simp) 3 _ rfl
  have d4 := K1.c (b := x.heap.size) (T := 24) (vs := rgtC t v r wr k) (by simp) 4 _ rfl
  have hne := (K1.box (b := x.heap.size) (T := 24) (vs := rgtC t v r wr k) (by simp)).lt
  clear hm
  go_wp2
  refine bodyPost_ret (v := .tuple #[rgt t v r wr k, .bool true]) (by simp [results, Tryd.results9, go_sem, *]) rfl ⟨rfl, ?_⟩
  repeat (first | exact K1.1 | refine Below.setCell ?_ (by dsimp only; omega) _)

set_option maxHeartbeats 2000000 in
theorem read_false (s : ByteArray) (a : Addr) (es er : Value) (w : World) (hv : Vs a es er w)
    (HC : Hid (∀ x, Vs a es er x → Calls Tryd.prog 20 #[.string s] x fun e x' => e = .returned (.tuple #[rgt 0 0 false false false, bad a]) ∧ Below x.heap.size x x')) :
    Calls Tryd.prog 9 #[.string s] w fun e w' => e = .returned (.tuple #[rgt 0 0 false false false, .bool false]) ∧ Below w.heap.size w w' := by
  have K0 := (Kn.refl (w := w)).new 24 (rgtC 0 0 false false false)
  have HV := Lib.hid hv
  clear hv
  go_enter Tryd.func9, Tryd.ntmps9
  go_wp2_with fail
  refine (HC.out _ (HV.out.on K0.1)).mono ?_
  rintro e x ⟨rfl, hb⟩
  have K1 := (K0.stay hb).new 24 (rgtC 0 0 false false false)
  have hm := (HV.out.on K1.1).m
  clear K0 hb HC
  go_wp2_with fail
  refine (is_self a _).mono ?_
  rintro e y ⟨rfl, rfl⟩
  have c0 := K1.c (b := w.heap.size) (T := 24) (vs := rgtC 0 0 false false false) (by simp) 0 _ rfl
  have cf0 := K1.f (b := w.heap.size) (T := 24) (vs := rgtC 0 0 false false false) (by simp) 0
  have c1 := K1.c (b := w.heap.size) (T := 24) (vs := rgtC 0 0 false false false) (by simp) 1 _ rfl
  have cf1 := K1.f (b := w.heap.size) (T := 24) (vs := rgtC 0 0 false false false) (by simp) 1
  have c2 := K1.c (b := w.heap.size) (T := 24) (vs := rgtC 0 0 false false false) (by simp) 2 _ rfl
  have cf2 := K1.f (b := w.heap.size) (T := 24) (vs := rgtC 0 0 false false false) (by simp) 2
  have c3 := K1.c (b := w.heap.size) (T := 24) (vs := rgtC 0 0 false false false) (by simp) 3 _ rfl
  have cf3 := K1.f (b := w.heap.size) (T := 24) (vs := rgtC 0 0 false false false) (by simp) 3
  have c4 := K1.c (b := w.heap.size) (T := 24) (vs := rgtC 0 0 false false false) (by simp) 4 _ rfl
  have cf4 := K1.f (b := w.heap.size) (T := 24) (vs := rgtC 0 0 false false false) (by simp) 4
  clear hm
  go_wp2
  refine bodyPost_ret (v := .tuple #[rgt 0 0 false false false, .bool false]) (by simp [results, Tryd.results9, go_sem, *]) rfl ⟨rfl, ?_⟩
  repeat (first | exact K1.1 | refine Below.setCell ?_ (by dsimp only; omega) _)

/-- What the program reads out of a text. -/
theorem implRRead_of {s : ByteArray} {t v : Int} {r wr k b : Bool} (h : RR s t v r wr k b) (hz : s.size ≤ 1048576) {a : Addr} {es er : Value} (w : World) (hv : Vs a es er w) :
    Calls Tryd.prog 9 #[.string s] w fun e w' => e = .returned (.tuple #[rgt t v r wr k, .bool b]) ∧ Below w.heap.size w w' := by
  rcases h with ⟨rfl, ho, hs⟩ | ⟨rfl, ⟨rfl, rfl, rfl, rfl, rfl⟩, hn⟩
  · refine read_true s t v r wr k a es er w hv (Lib.hid fun x hx => ?_)
    by_cases ht : t = 0
    · subst ht
      obtain ⟨rfl, rfl, rfl, rfl⟩ := okR_null ho
      exact parse_dash s (by rw [← hs, txtR_null ho, Lib.toList_data]; rfl) x
    · refine parse_true s ?_ t v r wr k ho ht hs a es er x hx
      cases hc : (s.toList == [45]) with
      | false => rfl
      | true =>
        have h1 : s.toList = dash.toList := by simpa using hc
        have h2 := toList_eq (a := s) (b := dash) (by rw [h1]; exact toList_self _)
        rw [txtR_some ho ht, h2] at hs
        exact absurd (congrArg ByteArray.size hs) (by show ¬ (6 = 1); decide)
  · refine read_false s a es er w hv (Lib.hid fun x hx => parse_false s ?_ hz hn a es er x hx)
    cases hc : (s.toList == [45]) with
    | false => rfl
    | true =>
      have h1 : s.toList = dash.toList := by simpa using hc
      have h2 := toList_eq (a := s) (b := dash) (by rw [h1]; exact toList_self _)
      exact absurd (by rw [h2]; rfl) (hn 0 0 false false false rfl)
end Go.Proofs.YthbeiigiffnhjaaDoor
