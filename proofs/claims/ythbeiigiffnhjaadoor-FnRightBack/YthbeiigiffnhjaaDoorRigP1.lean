/-
  What the program's reading of a right calls: strings.Cut at a dot; a number's text.
-/
import Derived.Test.YthbeiigiffnhjaaDoorKit
import Derived.Test.YthbeiigiffnhjaaDoorWld
import Derived.Test.YthbeiigiffnhjaaDoorShf
import Derived.Lib.AtoiErrMem
import Derived.Lib.IndexBytes
namespace Go.Proofs.YthbeiigiffnhjaaDoor
open Go.RowKit
set_option linter.unusedVariables false

/-- The program's one error. -/
abbrev bad (a : Addr) : Value := .iface 100 (.pointer (some a))
/-- The variables that reading a number comes to. -/
structure Vs (a : Addr) (es er : Value) (w : World) : Prop where
  m : w.cell? ⟨0, 0, none⟩ = some (bad a)
  s : w.cell? ⟨2, 0, none⟩ = some es
  r : w.cell? ⟨3, 0, none⟩ = some er
  si : es = .nilIface ∨ ∃ te pe, es = .iface te pe
  ri : er = .nilIface ∨ ∃ te pe, er = .iface te pe
  z : 0 < w.heap.size
  zs : 2 < w.heap.size
  zr : 3 < w.heap.size
theorem Vs.on {a : Addr} {es er : Value} {w x : World} (h : Vs a es er w) (hb : Below w.heap.size w x) : Vs a es er x where
  m := (hb.cell (p := ⟨0, 0, none⟩) h.z).trans h.m
  s := (hb.cell (p := ⟨2, 0, none⟩) h.zs).trans h.s
  r := (hb.cell (p := ⟨3, 0, none⟩) h.zr).trans h.r
  si := h.si
  ri := h.ri
  z := Nat.lt_of_lt_of_le h.z hb.size
  zs := Nat.lt_of_lt_of_le h.zs hb.size
  zr := Nat.lt_of_lt_of_le h.zr hb.size

/-- A text cut at its first dot: where it stands. -/
theorem dot_at (s : ByteArray) : Lib.indexByte s.data.toList 46 = -1 ∨ ∃ o : Nat, Lib.indexByte s.data.toList 46 = o ∧ o < s.size := by
  have h := Lib.indexByte_piece s 0 s.size 46
  rw [show s.extract 0 s.size = s by simp] at h
  rcases h with h | ⟨o, h, ho⟩
  · exact .inl h
  · exact .inr ⟨o, h, by omega⟩

set_option maxHeartbeats 1000000 in
theorem cutIn_none (s : ByteArray) (h : Lib.indexByte s.data.toList 46 = -1) (w : World) :
    Calls Tryd.prog 30 #[.string s, .string ⟨#[46]⟩] w fun e w' => e = .returned (.tuple #[.string s, .string ⟨#[]⟩, .bool false]) ∧ w = w' := by
  have H := Lib.hid (Tryd.stringslite_Index_one s 46 w)
  rw [h] at H
  go_enter Tryd.func30, Tryd.ntmps30
  go_wp2_with fail
  refine H.out.mono ?_
  rintro e x ⟨rfl, rfl⟩
  go_wp2
  refine bodyPost_ret (v := .tuple #[.string s, .string ⟨#[]⟩, .bool false]) (by simp [results, Tryd.results30, go_sem]) rfl ⟨rfl, rfl⟩

set_option maxHeartbeats 1000000 in
theorem cutIn_some (s : ByteArray) (o : Nat) (h : Lib.indexByte s.data.toList 46 = o) (ho : o < s.size) (hz : s.size ≤ 1048576) (w : World) :
    Calls Tryd.prog 30 #[.string s, .string ⟨#[46]⟩] w fun e w' => e = .returned (.tuple #[.string (s.extract 0 o), .string (s.extract (o + 1) s.size), .bool true]) ∧ Below w.heap.size w w' := by
  have H := Lib.hid (Tryd.stringslite_Index_one s 46 w)
  rw [h] at H
  have hw : wrap64 ((o : Int) + 1) = ((o + 1 : Nat) : Int) := by unfold wrap64; omega
  have h1 : o ≤ s.size := by omega
  have h2 : o + 1 ≤ s.size := by omega
  clear h hz
  go_enter Tryd.func30, Tryd.ntmps30
  go_wp2_with fail
  refine H.out.mono ?_
  rintro e x ⟨rfl, rfl⟩
  go_wp2_with fail
  go_region
  go_wp2
  refine bodyPost_ret (v := .tuple #[.string (s.extract 0 o), .string (s.extract (o + 1) s.size), .bool true]) (by simp [results, Tryd.results30, go_sem]) rfl ⟨rfl, (Below.refl _ _).drew⟩

set_option maxHeartbeats 1000000 in
theorem cut_none (s : ByteArray) (h : Lib.indexByte s.data.toList 46 = -1) (w : World) :
    Calls Tryd.prog 28 #[.string s, .string ⟨#[46]⟩] w fun e w' => e = .returned (.tuple #[.string s, .string ⟨#[]⟩, .bool false]) ∧ w = w' := by
  have H := Lib.hid (cutIn_none s h w)
  clear h
  go_enter Tryd.func28, Tryd.ntmps28
  go_wp2_with fail
  refine H.out.mono ?_
  rintro e x ⟨rfl, rfl⟩
  go_wp2
  refine bodyPost_ret (v := .tuple #[.string s, .string ⟨#[]⟩, .bool false]) (by simp [results, Tryd.results28, go_sem]) rfl ⟨rfl, rfl⟩

set_option maxHeartbeats 1000000 in
theorem cut_some (s : ByteArray) (o : Nat) (h : Lib.indexByte s.data.toList 46 = o) (ho : o < s.size) (hz : s.size ≤ 1048576) (w : World) :
    Calls Tryd.prog 28 #[.string s, .string ⟨#[46]⟩] w fun e w' => e = .returned (.tuple #[.string (s.extract 0 o), .string (s.extract (o + 1) s.size), .bool true]) ∧ Below w.heap.size w w' := by
  have H := Lib.hid (cutIn_some s o h ho hz w)
  clear h ho hz
  go_enter Tryd.func28, Tryd.ntmps28
  go_wp2_with fail
  refine H.out.mono ?_
  rintro e x ⟨rfl, hb⟩
  go_wp2
  refine bodyPost_ret (v := .tuple #[.string (s.extract 0 o), .string (s.extract (o + 1) s.size), .bool true]) (by simp [results, Tryd.results28, go_sem]) rfl ⟨rfl, hb⟩

/-- strconv.Atoi returns a number, and nil or an error. -/
theorem atoi_any (s : ByteArray) (a : Addr) (es er : Value) (hz : s.size ≤ 1048576) (w : World) (hv : Vs a es er w) :
    Calls Tryd.prog 31 #[.string s] w fun e w' => (∃ (n : Int) (x : Value), e = .returned (.tuple #[.int .i64 n, x]) ∧ (x = .nilIface ∨ ∃ te pe, x = .iface te pe)) ∧ Below w.heap.size w w' := by
  cases h : Lib.atoiAll s.data.toList with
  | ok v =>
    refine (Tryd.strconv_Atoi_ok s (by omega) v h w).mono ?_
    rintro e w' ⟨rfl, rfl | ⟨t, rfl⟩⟩
    · exact ⟨⟨_, _, rfl, .inl rfl⟩, Below.refl _ _⟩
    · exact ⟨⟨_, _, rfl, .inl rfl⟩, Lib.bytesWorld_below _ _ _⟩
  | «syntax» =>
    refine (Tryd.strconv_Atoi_syntax s (by omega) h es w hv.s hv.si).mono ?_
    rintro e w' ⟨N, rfl, _, _, hb⟩
    exact ⟨⟨_, _, rfl, .inr ⟨_, _, rfl⟩⟩, hb⟩
  | range =>
    refine (Tryd.strconv_Atoi_range s (by omega) h er w hv.r hv.ri).mono ?_
    rintro e w' ⟨N, rfl, _, _, hb⟩
    exact ⟨⟨_, _, rfl, .inr ⟨_, _, rfl⟩⟩, hb⟩
theorem atoi_dig (n : Int) (h0 : 0 ≤ n) (h9 : n ≤ 9) (w : World) :
    Calls Tryd.prog 31 #[.string (dig n)] w fun e w' => e = .returned (.tuple #[.int .i64 n, .nilIface]) ∧ Below w.heap.size w w' := by
  have h : Lib.atoiAll (dig n).data.toList = .ok n := by
    rcases ten n h0 h9 with rfl | rfl | rfl | rfl | rfl | rfl | rfl | rfl | rfl | rfl <;> rfl
  refine (Tryd.strconv_Atoi_ok (dig n) (by show 1 ≤ _; omega) n h w).mono ?_
  rintro e w' ⟨rfl, rfl | ⟨t, rfl⟩⟩
  · exact ⟨rfl, Below.refl _ _⟩
  · exact ⟨rfl, Lib.bytesWorld_below _ _ _⟩

set_option maxHeartbeats 1000000 in
/-- A number's text: a number, or the program's error. -/
theorem num_any (s : ByteArray) (a : Addr) (es er : Value) (hz : s.size ≤ 1048576) (w : World) (hv : Vs a es er w) :
    Calls Tryd.prog 29 #[.string s] w fun e w' => (e = .returned (.tuple #[.int .i64 0, bad a]) ∨ ∃ n : Int, e = .returned (.tuple #[.int .i64 n, .nilIface])) ∧ Below w.heap.size w w' := by
  have H := Lib.hid (atoi_any s a es er hz w hv)
  have HV := Lib.hid hv
  clear hz hv
  go_enter Tryd.func29, Tryd.ntmps29
  go_wp2_with fail
  refine H.out.mono ?_
  rintro e x ⟨⟨n, y, rfl, rfl | ⟨te, pe, rfl⟩⟩, hb⟩
  · clear H HV
    go_wp2
    refine bodyPost_ret (v := .tuple #[.int .i64 n, .nilIface]) (by simp [results, Tryd.results29, go_sem]) rfl ⟨.inr ⟨n, rfl⟩, hb⟩
  · have hm := (HV.out.on hb).m
    clear H HV
    go_wp2
    go_region
    go_wp2
    refine bodyPost_ret (v := .tuple #[.int .i64 0, bad a]) (by simp [results, Tryd.results29, go_sem]) rfl ⟨.inl rfl, hb.drew⟩

set_option maxHeartbeats 1000000 in
theorem num_dig (n : Int) (h0 : 0 ≤ n) (h9 : n ≤ 9) (w : World) :
    Calls Tryd.prog 29 #[.string (dig n)] w fun e w' => e = .returned (.tuple #[.int .i64 n, .nilIface]) ∧ Below w.heap.size w w' := by
  have H := Lib.hid (atoi_dig n h0 h9 w)
  clear h0 h9
  go_enter Tryd.func29, Tryd.ntmps29
  go_wp2_with fail
  refine H.out.mono ?_
  rintro e x ⟨rfl, hb⟩
  go_wp2
  refine bodyPost_ret (v := .tuple #[.int .i64 n, .nilIface]) (by simp [results, Tryd.results29, go_sem]) rfl ⟨rfl, hb⟩
end Go.Proofs.YthbeiigiffnhjaaDoor
