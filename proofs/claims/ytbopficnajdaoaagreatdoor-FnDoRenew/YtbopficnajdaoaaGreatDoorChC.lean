/-
  What a call needs: the program's table of requirements, and what it asks of a right and of labels.
-/
import Derived.Test.YtbopficnajdaoaaGreatDoorChA
import Derived.Test.YtbopficnajdaoaaGreatDoorCalA
namespace Go.Proofs.YtbopficnajdaoaaGreatDoor
open Go.RowKit
set_option linter.unusedVariables false
set_option maxRecDepth 100000

/-- What a call needs: to read, to write; things of which kinds. -/
def needR (k : Int) : Bool := k == 1 || (k == 4 || k == 7)
def needW (k : Int) : Bool := !(k == 1 || k == 4)
def kindsOf (k : Int) : List Int := if k = 1 ∨ k = 2 then [1] else if k = 4 ∨ k = 5 then [2] else if k = 6 ∨ k = 7 then [4] else if k = 9 then [5] else [1, 2, 4]
def inL (l : List Int) (v : Int) : Bool := l.contains v
def kindOk (k d : Int) : Bool := inL (kindsOf k) d
/-- The place of a number among such, or none. -/
def Ix (l : List Int) (v r : Int) : Prop := inL l v = decide (0 ≤ r)
/-- What is told of the use of a right by a runner. -/
def useV (l : List T8) (p : T8) (r : R5) (k : Int) : Int :=
  if (r.t == 0 || (!kindOk k (thAt l r.t).kind || ((needR k && !r.r) || (needW k && !r.w)))) then -1
  else if ((needR k && !seesT p (thAt l r.t)) || (needW k && !touT p (thAt l r.t))) then -2
  else if (seesT p (thAt l r.t) && !liveB l r) then -3 else 0
def slotAt (x : T8) (a : Int) : R5 := (x.slots[a.toNat]?).getD ⟨0, 0, false, false, false⟩
/-- What is told of a call. -/
def chkV (l : List T8) (c : C5) : Int := if !(tabOk l && (isRun l c.r && c.ok)) then -1 else if c.k = 3 then 0 else useV l (thAt l c.r) (slotAt (thAt l c.r) c.a) c.k
/-- The nine kinds of calls, but for copying. -/
theorem eight {k : Int} (h : inR k 1 9 = true) (h3 : k ≠ 3) : k = 1 ∨ k = 2 ∨ k = 4 ∨ k = 5 ∨ k = 6 ∨ k = 7 ∨ k = 8 ∨ k = 9 := by
  have : 1 ≤ k ∧ k ≤ 9 := by simpa [inR] using h
  omega
abbrev slq (b n : Nat) : Sl := ⟨some ⟨b, 0, none⟩, n, n⟩
abbrev reqC (b n : Nat) (r w : Bool) : Array Value := #[.slice (some ⟨b, 0, none⟩) n n, .bool r, .bool w]
theorem hasQ_box {w : World} {b : Nat} {T : TypeId} {l : List Int} {n : Nat} (hn : l.length = n) (h : Box w b T (l.map fun n => Value.int .i64 n).toArray) : HasQ w ⟨some ⟨b, 0, none⟩, n, n⟩ l := by
  refine ⟨by simp [hn], Nat.le_refl _, .inr ⟨b, 0, rfl, fun i x hx j v hv => ?_⟩⟩
  simp only [List.getElem?_map, Option.map_eq_some_iff] at hx
  obtain ⟨z, hz, rfl⟩ := hx
  obtain rfl : j = 0 := by
    have := (Array.getElem?_eq_some_iff.1 hv).1
    simp at this; omega
  simp at hv
  subst hv
  exact h.cell _ _ (by simp [hz])
theorem infoQ : (Tryz.prog.info? 141).map (·.size) = some 30 := by kernel_rfl
theorem one30 (h : Nat) : (#[.slice none 0 0, .bool false, .bool false, .slice (some ⟨h + 1, 0, none⟩) 1 1, .bool true, .bool false, .slice (some ⟨h + 1 + 1, 0, none⟩) 1 1, .bool false, .bool true, .slice none 0 0, .bool false, .bool false, .slice (some ⟨h + 1 + 1 + 1, 0, none⟩) 1 1, .bool true, .bool false, .slice (some ⟨h + 1 + 1 + 1 + 1, 0, none⟩) 1 1, .bool false, .bool true, .slice (some ⟨h + 1 + 1 + 1 + 1 + 1, 0, none⟩) 1 1, .bool false, .bool true, .slice (some ⟨h + 1 + 1 + 1 + 1 + 1 + 1, 0, none⟩) 1 1, .bool true, .bool true, .slice (some ⟨h + 1 + 1 + 1 + 1 + 1 + 1 + 1, 0, none⟩) 3 3, .bool false, .bool true, .slice (some ⟨h + 1 + 1 + 1 + 1 + 1 + 1 + 1 + 1, 0, none⟩) 1 1, .bool false, .bool true] : Array Value).all (·.oneCell') = true := by simp [Value.oneCell']
set_option maxHeartbeats 8000000 in
theorem reqOf_any (k : Int) (h : inR k 1 9 = true) (h3 : k ≠ 3) (w : World) :
    Calls Tryz.prog 75 #[.int .i64 k] w fun e w' => ∃ b : Nat, e = .returned (.agg (reqC b (kindsOf k).length (needR k) (needW k))) ∧ HasQ w' (slq b (kindsOf k).length) (kindsOf k) ∧ Below w.heap.size w w' := by
  have HE := Lib.hid (eight h h3)
  clear h h3
  have hs9 : (((((((((w.alloc (.cells #[.slice none 0 0, .bool false, .bool false] 110)).alloc (.cells #[.int .i64 1] 3)).alloc (.cells #[.int .i64 1] 3)).alloc (.cells #[.int .i64 2] 3)).alloc (.cells #[.int .i64 2] 3)).alloc (.cells #[.int .i64 4] 3)).alloc (.cells #[.int .i64 4] 3)).alloc (.cells #[.int .i64 1, .int .i64 2, .int .i64 4] 3)).alloc (.cells #[.int .i64 5] 3)).heap.size = w.heap.size + 1 + 1 + 1 + 1 + 1 + 1 + 1 + 1 + 1 := by simp
  have bR := Box.fresh (((((((((w.alloc (.cells #[.slice none 0 0, .bool false, .bool false] 110)).alloc (.cells #[.int .i64 1] 3)).alloc (.cells #[.int .i64 1] 3)).alloc (.cells #[.int .i64 2] 3)).alloc (.cells #[.int .i64 2] 3)).alloc (.cells #[.int .i64 4] 3)).alloc (.cells #[.int .i64 4] 3)).alloc (.cells #[.int .i64 1, .int .i64 2, .int .i64 4] 3)).alloc (.cells #[.int .i64 5] 3)) 141 #[.slice none 0 0, .bool false, .bool false, .slice none 0 0, .bool false, .bool false, .slice none 0 0, .bool false, .bool false, .slice none 0 0, .bool false, .bool false, .slice none 0 0, .bool false, .bool false, .slice none 0 0, .bool false, .bool false, .slice none 0 0, .bool false, .bool false, .slice none 0 0, .bool false, .bool false, .slice none 0 0, .bool false, .bool false, .slice none 0 0, .bool false, .bool false]
  rw [hs9] at bR
  have BR := Lib.hid bR
  have K := ((((((((((Kn.refl (w := w)).new 110 #[.slice none 0 0, .bool false, .bool false]).new 3 #[.int .i64 1]).new 3 #[.int .i64 1]).new 3 #[.int .i64 2]).new 3 #[.int .i64 2]).new 3 #[.int .i64 4]).new 3 #[.int .i64 4]).new 3 #[.int .i64 1, .int .i64 2, .int .i64 4]).new 3 #[.int .i64 5])
  have KB := Lib.hid (K.past (.cells #[.slice none 0 0, .bool false, .bool false, .slice none 0 0, .bool false, .bool false, .slice none 0 0, .bool false, .bool false, .slice none 0 0, .bool false, .bool false, .slice none 0 0, .bool false, .bool false, .slice none 0 0, .bool false, .bool false, .slice none 0 0, .bool false, .bool false, .slice none 0 0, .bool false, .bool false, .slice none 0 0, .bool false, .bool false, .slice none 0 0, .bool false, .bool false] 141))
  clear K hs9 bR
  go_enter Tryz.func75, Tryz.ntmps75
  go_upto_region 2 with (refine wpList_store_rowTo rfl 141 (.tmp 3) (.tmp 20) rfl rfl (w.heap.size + 1 + 1 + 1 + 1 + 1 + 1 + 1 + 1 + 1) #[.slice none 0 0, .bool false, .bool false, .slice (some ⟨w.heap.size + 1, 0, none⟩) 1 1, .bool true, .bool false, .slice (some ⟨w.heap.size + 1 + 1, 0, none⟩) 1 1, .bool false, .bool true, .slice none 0 0, .bool false, .bool false, .slice (some ⟨w.heap.size + 1 + 1 + 1, 0, none⟩) 1 1, .bool true, .bool false, .slice (some ⟨w.heap.size + 1 + 1 + 1 + 1, 0, none⟩) 1 1, .bool false, .bool true, .slice (some ⟨w.heap.size + 1 + 1 + 1 + 1 + 1, 0, none⟩) 1 1, .bool false, .bool true, .slice (some ⟨w.heap.size + 1 + 1 + 1 + 1 + 1 + 1, 0, none⟩) 1 1, .bool true, .bool true, .slice (some ⟨w.heap.size + 1 + 1 + 1 + 1 + 1 + 1 + 1, 0, none⟩) 3 3, .bool false, .bool true, .slice (some ⟨w.heap.size + 1 + 1 + 1 + 1 + 1 + 1 + 1 + 1, 0, none⟩) 1 1, .bool false, .bool true] rfl rfl 141 #[.slice none 0 0, .bool false, .bool false, .slice none 0 0, .bool false, .bool false, .slice none 0 0, .bool false, .bool false, .slice none 0 0, .bool false, .bool false, .slice none 0 0, .bool false, .bool false, .slice none 0 0, .bool false, .bool false, .slice none 0 0, .bool false, .bool false, .slice none 0 0, .bool false, .bool false, .slice none 0 0, .bool false, .bool false, .slice none 0 0, .bool false, .bool false] BR.out infoQ rfl (one30 _) ?_)
  have BZ := Lib.hid (setRow_box BR.out #[.slice none 0 0, .bool false, .bool false, .slice (some ⟨w.heap.size + 1, 0, none⟩) 1 1, .bool true, .bool false, .slice (some ⟨w.heap.size + 1 + 1, 0, none⟩) 1 1, .bool false, .bool true, .slice none 0 0, .bool false, .bool false, .slice (some ⟨w.heap.size + 1 + 1 + 1, 0, none⟩) 1 1, .bool true, .bool false, .slice (some ⟨w.heap.size + 1 + 1 + 1 + 1, 0, none⟩) 1 1, .bool false, .bool true, .slice (some ⟨w.heap.size + 1 + 1 + 1 + 1 + 1, 0, none⟩) 1 1, .bool false, .bool true, .slice (some ⟨w.heap.size + 1 + 1 + 1 + 1 + 1 + 1, 0, none⟩) 1 1, .bool true, .bool true, .slice (some ⟨w.heap.size + 1 + 1 + 1 + 1 + 1 + 1 + 1, 0, none⟩) 3 3, .bool false, .bool true, .slice (some ⟨w.heap.size + 1 + 1 + 1 + 1 + 1 + 1 + 1 + 1, 0, none⟩) 1 1, .bool false, .bool true])
  have KZ := Lib.hid (show Below w.heap.size w _ from KB.out.1.trans (setRow_below (g := w.heap.size + 1 + 1 + 1 + 1 + 1 + 1 + 1 + 1 + 1) (by omega) #[.slice none 0 0, .bool false, .bool false, .slice (some ⟨w.heap.size + 1, 0, none⟩) 1 1, .bool true, .bool false, .slice (some ⟨w.heap.size + 1 + 1, 0, none⟩) 1 1, .bool false, .bool true, .slice none 0 0, .bool false, .bool false, .slice (some ⟨w.heap.size + 1 + 1 + 1, 0, none⟩) 1 1, .bool true, .bool false, .slice (some ⟨w.heap.size + 1 + 1 + 1 + 1, 0, none⟩) 1 1, .bool false, .bool true, .slice (some ⟨w.heap.size + 1 + 1 + 1 + 1 + 1, 0, none⟩) 1 1, .bool false, .bool true, .slice (some ⟨w.heap.size + 1 + 1 + 1 + 1 + 1 + 1, 0, none⟩) 1 1, .bool true, .bool true, .slice (some ⟨w.heap.size + 1 + 1 + 1 + 1 + 1 + 1 + 1, 0, none⟩) 3 3, .bool false, .bool true, .slice (some ⟨w.heap.size + 1 + 1 + 1 + 1 + 1 + 1 + 1 + 1, 0, none⟩) 1 1, .bool false, .bool true]))
  have bX := setRow_other (vs := #[.slice none 0 0, .bool false, .bool false, .slice (some ⟨w.heap.size + 1, 0, none⟩) 1 1, .bool true, .bool false, .slice (some ⟨w.heap.size + 1 + 1, 0, none⟩) 1 1, .bool false, .bool true, .slice none 0 0, .bool false, .bool false, .slice (some ⟨w.heap.size + 1 + 1 + 1, 0, none⟩) 1 1, .bool true, .bool false, .slice (some ⟨w.heap.size + 1 + 1 + 1 + 1, 0, none⟩) 1 1, .bool false, .bool true, .slice (some ⟨w.heap.size + 1 + 1 + 1 + 1 + 1, 0, none⟩) 1 1, .bool false, .bool true, .slice (some ⟨w.heap.size + 1 + 1 + 1 + 1 + 1 + 1, 0, none⟩) 1 1, .bool true, .bool true, .slice (some ⟨w.heap.size + 1 + 1 + 1 + 1 + 1 + 1 + 1, 0, none⟩) 3 3, .bool false, .bool true, .slice (some ⟨w.heap.size + 1 + 1 + 1 + 1 + 1 + 1 + 1 + 1, 0, none⟩) 1 1, .bool false, .bool true]) (KB.out.box (b := w.heap.size) (T := 110) (vs := #[.slice none 0 0, .bool false, .bool false]) (by simp)) (show w.heap.size ≠ w.heap.size + 1 + 1 + 1 + 1 + 1 + 1 + 1 + 1 + 1 by omega)
  have HQ1 := Lib.hid (hasQ_box (l := [1]) rfl (setRow_other (vs := #[.slice none 0 0, .bool false, .bool false, .slice (some ⟨w.heap.size + 1, 0, none⟩) 1 1, .bool true, .bool false, .slice (some ⟨w.heap.size + 1 + 1, 0, none⟩) 1 1, .bool false, .bool true, .slice none 0 0, .bool false, .bool false, .slice (some ⟨w.heap.size + 1 + 1 + 1, 0, none⟩) 1 1, .bool true, .bool false, .slice (some ⟨w.heap.size + 1 + 1 + 1 + 1, 0, none⟩) 1 1, .bool false, .bool true, .slice (some ⟨w.heap.size + 1 + 1 + 1 + 1 + 1, 0, none⟩) 1 1, .bool false, .bool true, .slice (some ⟨w.heap.size + 1 + 1 + 1 + 1 + 1 + 1, 0, none⟩) 1 1, .bool true, .bool true, .slice (some ⟨w.heap.size + 1 + 1 + 1 + 1 + 1 + 1 + 1, 0, none⟩) 3 3, .bool false, .bool true, .slice (some ⟨w.heap.size + 1 + 1 + 1 + 1 + 1 + 1 + 1 + 1, 0, none⟩) 1 1, .bool false, .bool true]) (KB.out.box (b := w.heap.size + 1) (T := 3) (vs := #[.int .i64 1]) (by simp)) (show w.heap.size + 1 ≠ w.heap.size + 1 + 1 + 1 + 1 + 1 + 1 + 1 + 1 + 1 by omega)))
  have HQ2 := Lib.hid (hasQ_box (l := [1]) rfl (setRow_other (vs := #[.slice none 0 0, .bool false, .bool false, .slice (some ⟨w.heap.size + 1, 0, none⟩) 1 1, .bool true, .bool false, .slice (some ⟨w.heap.size + 1 + 1, 0, none⟩) 1 1, .bool false, .bool true, .slice none 0 0, .bool false, .bool false, .slice (some ⟨w.heap.size + 1 + 1 + 1, 0, none⟩) 1 1, .bool true, .bool false, .slice (some ⟨w.heap.size + 1 + 1 + 1 + 1, 0, none⟩) 1 1, .bool false, .bool true, .slice (some ⟨w.heap.size + 1 + 1 + 1 + 1 + 1, 0, none⟩) 1 1, .bool false, .bool true, .slice (some ⟨w.heap.size + 1 + 1 + 1 + 1 + 1 + 1, 0, none⟩) 1 1, .bool true, .bool true, .slice (some ⟨w.heap.size + 1 + 1 + 1 + 1 + 1 + 1 + 1, 0, none⟩) 3 3, .bool false, .bool true, .slice (some ⟨w.heap.size + 1 + 1 + 1 + 1 + 1 + 1 + 1 + 1, 0, none⟩) 1 1, .bool false, .bool true]) (KB.out.box (b := w.heap.size + 1 + 1) (T := 3) (vs := #[.int .i64 1]) (by simp)) (show w.heap.size + 1 + 1 ≠ w.heap.size + 1 + 1 + 1 + 1 + 1 + 1 + 1 + 1 + 1 by omega)))
  have HQ3 := Lib.hid (hasQ_box (l := [2]) rfl (setRow_other (vs := #[.slice none 0 0, .bool false, .bool false, .slice (some ⟨w.heap.size + 1, 0, none⟩) 1 1, .bool true, .bool false, .slice (some ⟨w.heap.size + 1 + 1, 0, none⟩) 1 1, .bool false, .bool true, .slice none 0 0, .bool false, .bool false, .slice (some ⟨w.heap.size + 1 + 1 + 1, 0, none⟩) 1 1, .bool true, .bool false, .slice (some ⟨w.heap.size + 1 + 1 + 1 + 1, 0, none⟩) 1 1, .bool false, .bool true, .slice (some ⟨w.heap.size + 1 + 1 + 1 + 1 + 1, 0, none⟩) 1 1, .bool false, .bool true, .slice (some ⟨w.heap.size + 1 + 1 + 1 + 1 + 1 + 1, 0, none⟩) 1 1, .bool true, .bool true, .slice (some ⟨w.heap.size + 1 + 1 + 1 + 1 + 1 + 1 + 1, 0, none⟩) 3 3, .bool false, .bool true, .slice (some ⟨w.heap.size + 1 + 1 + 1 + 1 + 1 + 1 + 1 + 1, 0, none⟩) 1 1, .bool false, .bool true]) (KB.out.box (b := w.heap.size + 1 + 1 + 1) (T := 3) (vs := #[.int .i64 2]) (by simp)) (show w.heap.size + 1 + 1 + 1 ≠ w.heap.size + 1 + 1 + 1 + 1 + 1 + 1 + 1 + 1 + 1 by omega)))
  have HQ4 := Lib.hid (hasQ_box (l := [2]) rfl (setRow_other (vs := #[.slice none 0 0, .bool false, .bool false, .slice (some ⟨w.heap.size + 1, 0, none⟩) 1 1, .bool true, .bool false, .slice (some ⟨w.heap.size + 1 + 1, 0, none⟩) 1 1, .bool false, .bool true, .slice none 0 0, .bool false, .bool false, .slice (some ⟨w.heap.size + 1 + 1 + 1, 0, none⟩) 1 1, .bool true, .bool false, .slice (some ⟨w.heap.size + 1 + 1 + 1 + 1, 0, none⟩) 1 1, .bool false, .bool true, .slice (some ⟨w.heap.size + 1 + 1 + 1 + 1 + 1, 0, none⟩) 1 1, .bool false, .bool true, .slice (some ⟨w.heap.size + 1 + 1 + 1 + 1 + 1 + 1, 0, none⟩) 1 1, .bool true, .bool true, .slice (some ⟨w.heap.size + 1 + 1 + 1 + 1 + 1 + 1 + 1, 0, none⟩) 3 3, .bool false, .bool true, .slice (some ⟨w.heap.size + 1 + 1 + 1 + 1 + 1 + 1 + 1 + 1, 0, none⟩) 1 1, .bool false, .bool true]) (KB.out.box (b := w.heap.size + 1 + 1 + 1 + 1) (T := 3) (vs := #[.int .i64 2]) (by simp)) (show w.heap.size + 1 + 1 + 1 + 1 ≠ w.heap.size + 1 + 1 + 1 + 1 + 1 + 1 + 1 + 1 + 1 by omega)))
  have HQ5 := Lib.hid (hasQ_box (l := [4]) rfl (setRow_other (vs := #[.slice none 0 0, .bool false, .bool false, .slice (some ⟨w.heap.size + 1, 0, none⟩) 1 1, .bool true, .bool false, .slice (some ⟨w.heap.size + 1 + 1, 0, none⟩) 1 1, .bool false, .bool true, .slice none 0 0, .bool false, .bool false, .slice (some ⟨w.heap.size + 1 + 1 + 1, 0, none⟩) 1 1, .bool true, .bool false, .slice (some ⟨w.heap.size + 1 + 1 + 1 + 1, 0, none⟩) 1 1, .bool false, .bool true, .slice (some ⟨w.heap.size + 1 + 1 + 1 + 1 + 1, 0, none⟩) 1 1, .bool false, .bool true, .slice (some ⟨w.heap.size + 1 + 1 + 1 + 1 + 1 + 1, 0, none⟩) 1 1, .bool true, .bool true, .slice (some ⟨w.heap.size + 1 + 1 + 1 + 1 + 1 + 1 + 1, 0, none⟩) 3 3, .bool false, .bool true, .slice (some ⟨w.heap.size + 1 + 1 + 1 + 1 + 1 + 1 + 1 + 1, 0, none⟩) 1 1, .bool false, .bool true]) (KB.out.box (b := w.heap.size + 1 + 1 + 1 + 1 + 1) (T := 3) (vs := #[.int .i64 4]) (by simp)) (show w.heap.size + 1 + 1 + 1 + 1 + 1 ≠ w.heap.size + 1 + 1 + 1 + 1 + 1 + 1 + 1 + 1 + 1 by omega)))
  have HQ6 := Lib.hid (hasQ_box (l := [4]) rfl (setRow_other (vs := #[.slice none 0 0, .bool false, .bool false, .slice (some ⟨w.heap.size + 1, 0, none⟩) 1 1, .bool true, .bool false, .slice (some ⟨w.heap.size + 1 + 1, 0, none⟩) 1 1, .bool false, .bool true, .slice none 0 0, .bool false, .bool false, .slice (some ⟨w.heap.size + 1 + 1 + 1, 0, none⟩) 1 1, .bool true, .bool false, .slice (some ⟨w.heap.size + 1 + 1 + 1 + 1, 0, none⟩) 1 1, .bool false, .bool true, .slice (some ⟨w.heap.size + 1 + 1 + 1 + 1 + 1, 0, none⟩) 1 1, .bool false, .bool true, .slice (some ⟨w.heap.size + 1 + 1 + 1 + 1 + 1 + 1, 0, none⟩) 1 1, .bool true, .bool true, .slice (some ⟨w.heap.size + 1 + 1 + 1 + 1 + 1 + 1 + 1, 0, none⟩) 3 3, .bool false, .bool true, .slice (some ⟨w.heap.size + 1 + 1 + 1 + 1 + 1 + 1 + 1 + 1, 0, none⟩) 1 1, .bool false, .bool true]) (KB.out.box (b := w.heap.size + 1 + 1 + 1 + 1 + 1 + 1) (T := 3) (vs := #[.int .i64 4]) (by simp)) (show w.heap.size + 1 + 1 + 1 + 1 + 1 + 1 ≠ w.heap.size + 1 + 1 + 1 + 1 + 1 + 1 + 1 + 1 + 1 by omega)))
  have HQ7 := Lib.hid (hasQ_box (l := [1, 2, 4]) rfl (setRow_other (vs := #[.slice none 0 0, .bool false, .bool false, .slice (some ⟨w.heap.size + 1, 0, none⟩) 1 1, .bool true, .bool false, .slice (some ⟨w.heap.size + 1 + 1, 0, none⟩) 1 1, .bool false, .bool true, .slice none 0 0, .bool false, .bool false, .slice (some ⟨w.heap.size + 1 + 1 + 1, 0, none⟩) 1 1, .bool true, .bool false, .slice (some ⟨w.heap.size + 1 + 1 + 1 + 1, 0, none⟩) 1 1, .bool false, .bool true, .slice (some ⟨w.heap.size + 1 + 1 + 1 + 1 + 1, 0, none⟩) 1 1, .bool false, .bool true, .slice (some ⟨w.heap.size + 1 + 1 + 1 + 1 + 1 + 1, 0, none⟩) 1 1, .bool true, .bool true, .slice (some ⟨w.heap.size + 1 + 1 + 1 + 1 + 1 + 1 + 1, 0, none⟩) 3 3, .bool false, .bool true, .slice (some ⟨w.heap.size + 1 + 1 + 1 + 1 + 1 + 1 + 1 + 1, 0, none⟩) 1 1, .bool false, .bool true]) (KB.out.box (b := w.heap.size + 1 + 1 + 1 + 1 + 1 + 1 + 1) (T := 3) (vs := #[.int .i64 1, .int .i64 2, .int .i64 4]) (by simp)) (show w.heap.size + 1 + 1 + 1 + 1 + 1 + 1 + 1 ≠ w.heap.size + 1 + 1 + 1 + 1 + 1 + 1 + 1 + 1 + 1 by omega)))
  have HQ8 := Lib.hid (hasQ_box (l := [5]) rfl (setRow_other (vs := #[.slice none 0 0, .bool false, .bool false, .slice (some ⟨w.heap.size + 1, 0, none⟩) 1 1, .bool true, .bool false, .slice (some ⟨w.heap.size + 1 + 1, 0, none⟩) 1 1, .bool false, .bool true, .slice none 0 0, .bool false, .bool false, .slice (some ⟨w.heap.size + 1 + 1 + 1, 0, none⟩) 1 1, .bool true, .bool false, .slice (some ⟨w.heap.size + 1 + 1 + 1 + 1, 0, none⟩) 1 1, .bool false, .bool true, .slice (some ⟨w.heap.size + 1 + 1 + 1 + 1 + 1, 0, none⟩) 1 1, .bool false, .bool true, .slice (some ⟨w.heap.size + 1 + 1 + 1 + 1 + 1 + 1, 0, none⟩) 1 1, .bool true, .bool true, .slice (some ⟨w.heap.size + 1 + 1 + 1 + 1 + 1 + 1 + 1, 0, none⟩) 3 3, .bool false, .bool true, .slice (some ⟨w.heap.size + 1 + 1 + 1 + 1 + 1 + 1 + 1 + 1, 0, none⟩) 1 1, .bool false, .bool true]) (KB.out.box (b := w.heap.size + 1 + 1 + 1 + 1 + 1 + 1 + 1 + 1) (T := 3) (vs := #[.int .i64 5]) (by simp)) (show w.heap.size + 1 + 1 + 1 + 1 + 1 + 1 + 1 + 1 ≠ w.heap.size + 1 + 1 + 1 + 1 + 1 + 1 + 1 + 1 + 1 by omega)))
  obtain ⟨Z, hZ⟩ : ∃ Z, ((((((((((w.alloc (.cells #[.slice none 0 0, .bool false, .bool false] 110)).alloc (.cells #[.int .i64 1] 3)).alloc (.cells #[.int .i64 1] 3)).alloc (.cells #[.int .i64 2] 3)).alloc (.cells #[.int .i64 2] 3)).alloc (.cells #[.int .i64 4] 3)).alloc (.cells #[.int .i64 4] 3)).alloc (.cells #[.int .i64 1, .int .i64 2, .int .i64 4] 3)).alloc (.cells #[.int .i64 5] 3)).alloc (.cells #[.slice none 0 0, .bool false, .bool false, .slice none 0 0, .bool false, .bool false, .slice none 0 0, .bool false, .bool false, .slice none 0 0, .bool false, .bool false, .slice none 0 0, .bool false, .bool false, .slice none 0 0, .bool false, .bool false, .slice none 0 0, .bool false, .bool false, .slice none 0 0, .bool false, .bool false, .slice none 0 0, .bool false, .bool false, .slice none 0 0, .bool false, .bool false] 141)).setRow (w.heap.size + 1 + 1 + 1 + 1 + 1 + 1 + 1 + 1 + 1) #[.slice none 0 0, .bool false, .bool false, .slice (some ⟨w.heap.size + 1, 0, none⟩) 1 1, .bool true, .bool false, .slice (some ⟨w.heap.size + 1 + 1, 0, none⟩) 1 1, .bool false, .bool true, .slice none 0 0, .bool false, .bool false, .slice (some ⟨w.heap.size + 1 + 1 + 1, 0, none⟩) 1 1, .bool true, .bool false, .slice (some ⟨w.heap.size + 1 + 1 + 1 + 1, 0, none⟩) 1 1, .bool false, .bool true, .slice (some ⟨w.heap.size + 1 + 1 + 1 + 1 + 1, 0, none⟩) 1 1, .bool false, .bool true, .slice (some ⟨w.heap.size + 1 + 1 + 1 + 1 + 1 + 1, 0, none⟩) 1 1, .bool true, .bool true, .slice (some ⟨w.heap.size + 1 + 1 + 1 + 1 + 1 + 1 + 1, 0, none⟩) 3 3, .bool false, .bool true, .slice (some ⟨w.heap.size + 1 + 1 + 1 + 1 + 1 + 1 + 1 + 1, 0, none⟩) 1 1, .bool false, .bool true] = Z := ⟨_, rfl⟩
  rw [hZ] at BZ KZ bX HQ1 HQ2 HQ3 HQ4 HQ5 HQ6 HQ7 HQ8 ⊢
  have x0 := bX.cell 0 _ rfl
  have x1 := bX.cell 1 _ rfl
  have x2 := bX.cell 2 _ rfl
  have f0 := bX.thaw 0
  have f1 := bX.thaw 1
  have f2 := bX.thaw 2
  have BX := Lib.hid bX
  clear hZ bX KB BR
  rcases HE.out with rfl | rfl | rfl | rfl | rfl | rfl | rfl | rfl
  · have d0 := BZ.out.cell 3 _ rfl
    have d1 := BZ.out.cell 4 _ rfl
    have d2 := BZ.out.cell 5 _ rfl
    go_wp2
    refine bodyPost_ret (v := .agg (reqC (w.heap.size + 1) 1 true false)) (by simp [results, Tryz.results75, go_sem, *]) rfl ⟨w.heap.size + 1, rfl, ?_, ?_⟩
    · exact ((HQ1.out.other (fun b o e => by simp at e; dsimp only; omega) _).other (fun b o e => by simp at e; dsimp only; omega) _).other (fun b o e => by simp at e; dsimp only; omega) _
    · exact ((KZ.out.setCell (p := ⟨w.heap.size, 0, none⟩) (Nat.le_refl _) _).setCell (p := ⟨w.heap.size, 1, none⟩) (Nat.le_refl _) _).setCell (p := ⟨w.heap.size, 2, none⟩) (Nat.le_refl _) _
  · have d0 := BZ.out.cell 6 _ rfl
    have d1 := BZ.out.cell 7 _ rfl
    have d2 := BZ.out.cell 8 _ rfl
    go_wp2
    refine bodyPost_ret (v := .agg (reqC (w.heap.size + 1 + 1) 1 false true)) (by simp [results, Tryz.results75, go_sem, *]) rfl ⟨w.heap.size + 1 + 1, rfl, ?_, ?_⟩
    · exact ((HQ2.out.other (fun b o e => by simp at e; dsimp only; omega) _).other (fun b o e => by simp at e; dsimp only; omega) _).other (fun b o e => by simp at e; dsimp only; omega) _
    · exact ((KZ.out.setCell (p := ⟨w.heap.size, 0, none⟩) (Nat.le_refl _) _).setCell (p := ⟨w.heap.size, 1, none⟩) (Nat.le_refl _) _).setCell (p := ⟨w.heap.size, 2, none⟩) (Nat.le_refl _) _
  · have d0 := BZ.out.cell 12 _ rfl
    have d1 := BZ.out.cell 13 _ rfl
    have d2 := BZ.out.cell 14 _ rfl
    go_wp2
    refine bodyPost_ret (v := .agg (reqC (w.heap.size + 1 + 1 + 1) 1 true false)) (by simp [results, Tryz.results75, go_sem, *]) rfl ⟨w.heap.size + 1 + 1 + 1, rfl, ?_, ?_⟩
    · exact ((HQ3.out.other (fun b o e => by simp at e; dsimp only; omega) _).other (fun b o e => by simp at e; dsimp only; omega) _).other (fun b o e => by simp at e; dsimp only; omega) _
    · exact ((KZ.out.setCell (p := ⟨w.heap.size, 0, none⟩) (Nat.le_refl _) _).setCell (p := ⟨w.heap.size, 1, none⟩) (Nat.le_refl _) _).setCell (p := ⟨w.heap.size, 2, none⟩) (Nat.le_refl _) _
  · have d0 := BZ.out.cell 15 _ rfl
    have d1 := BZ.out.cell 16 _ rfl
    have d2 := BZ.out.cell 17 _ rfl
    go_wp2
    refine bodyPost_ret (v := .agg (reqC (w.heap.size + 1 + 1 + 1 + 1) 1 false true)) (by simp [results, Tryz.results75, go_sem, *]) rfl ⟨w.heap.size + 1 + 1 + 1 + 1, rfl, ?_, ?_⟩
    · exact ((HQ4.out.other (fun b o e => by simp at e; dsimp only; omega) _).other (fun b o e => by simp at e; dsimp only; omega) _).other (fun b o e => by simp at e; dsimp only; omega) _
    · exact ((KZ.out.setCell (p := ⟨w.heap.size, 0, none⟩) (Nat.le_refl _) _).setCell (p := ⟨w.heap.size, 1, none⟩) (Nat.le_refl _) _).setCell (p := ⟨w.heap.size, 2, none⟩) (Nat.le_refl _) _
  · have d0 := BZ.out.cell 18 _ rfl
    have d1 := BZ.out.cell 19 _ rfl
    have d2 := BZ.out.cell 20 _ rfl
    go_wp2
    refine bodyPost_ret (v := .agg (reqC (w.heap.size + 1 + 1 + 1 + 1 + 1) 1 false true)) (by simp [results, Tryz.results75, go_sem, *]) rfl ⟨w.heap.size + 1 + 1 + 1 + 1 + 1, rfl, ?_, ?_⟩
    · exact ((HQ5.out.other (fun b o e => by simp at e; dsimp only; omega) _).other (fun b o e => by simp at e; dsimp only; omega) _).other (fun b o e => by simp at e; dsimp only; omega) _
    · exact ((KZ.out.setCell (p := ⟨w.heap.size, 0, none⟩) (Nat.le_refl _) _).setCell (p := ⟨w.heap.size, 1, none⟩) (Nat.le_refl _) _).setCell (p := ⟨w.heap.size, 2, none⟩) (Nat.le_refl _) _
  · have d0 := BZ.out.cell 21 _ rfl
    have d1 := BZ.out.cell 22 _ rfl
    have d2 := BZ.out.cell 23 _ rfl
    go_wp2
    refine bodyPost_ret (v := .agg (reqC (w.heap.size + 1 + 1 + 1 + 1 + 1 + 1) 1 true true)) (by simp [results, Tryz.results75, go_sem, *]) rfl ⟨w.heap.size + 1 + 1 + 1 + 1 + 1 + 1, rfl, ?_, ?_⟩
    · exact ((HQ6.out.other (fun b o e => by simp at e; dsimp only; omega) _).other (fun b o e => by simp at e; dsimp only; omega) _).other (fun b o e => by simp at e; dsimp only; omega) _
    · exact ((KZ.out.setCell (p := ⟨w.heap.size, 0, none⟩) (Nat.le_refl _) _).setCell (p := ⟨w.heap.size, 1, none⟩) (Nat.le_refl _) _).setCell (p := ⟨w.heap.size, 2, none⟩) (Nat.le_refl _) _
  · have d0 := BZ.out.cell 24 _ rfl
    have d1 := BZ.out.cell 25 _ rfl
    have d2 := BZ.out.cell 26 _ rfl
    go_wp2
    refine bodyPost_ret (v := .agg (reqC (w.heap.size + 1 + 1 + 1 + 1 + 1 + 1 + 1) 3 false true)) (by simp [results, Tryz.results75, go_sem, *]) rfl ⟨w.heap.size + 1 + 1 + 1 + 1 + 1 + 1 + 1, rfl, ?_, ?_⟩
    · exact ((HQ7.out.other (fun b o e => by simp at e; dsimp only; omega) _).other (fun b o e => by simp at e; dsimp only; omega) _).other (fun b o e => by simp at e; dsimp only; omega) _
    · exact ((KZ.out.setCell (p := ⟨w.heap.size, 0, none⟩) (Nat.le_refl _) _).setCell (p := ⟨w.heap.size, 1, none⟩) (Nat.le_refl _) _).setCell (p := ⟨w.heap.size, 2, none⟩) (Nat.le_refl _) _
  · have d0 := BZ.out.cell 27 _ rfl
    have d1 := BZ.out.cell 28 _ rfl
    have d2 := BZ.out.cell 29 _ rfl
    go_wp2
    refine bodyPost_ret (v := .agg (reqC (w.heap.size + 1 + 1 + 1 + 1 + 1 + 1 + 1 + 1) 1 false true)) (by simp [results, Tryz.results75, go_sem, *]) rfl ⟨w.heap.size + 1 + 1 + 1 + 1 + 1 + 1 + 1 + 1, rfl, ?_, ?_⟩
    · exact ((HQ8.out.other (fun b o e => by simp at e; dsimp only; omega) _).other (fun b o e => by simp at e; dsimp only; omega) _).other (fun b o e => by simp at e; dsimp only; omega) _
    · exact ((KZ.out.setCell (p := ⟨w.heap.size, 0, none⟩) (Nat.le_refl _) _).setCell (p := ⟨w.heap.size, 1, none⟩) (Nat.le_refl _) _).setCell (p := ⟨w.heap.size, 2, none⟩) (Nat.le_refl _) _

set_option maxHeartbeats 2000000 in
theorem index_any (l : List Int) (b c : Nat) (v : Int) (w : World) (h : HasQ w ⟨some ⟨b, 0, none⟩, l.length, c⟩ l) (hz : l.length ≤ 1000) :
    Calls Tryz.prog 118 #[.slice (some ⟨b, 0, none⟩) l.length c, .int .i64 v] w fun e w' => ∃ r : Int, e = .returned (.int .i64 r) ∧ Ix l v r ∧ w = w' := by
  have H := Lib.hid h
  clear h
  go_enter Tryz.func118, Tryz.ntmps118
  go_wp2
  go_loopw [8] (fun i wr => ∃ k : Nat, i = .int .i64 k ∧ k ≤ l.length ∧ (∀ j (hj : j < l.length), j < k → l[j] ≠ v) ∧ w = wr) (fun i _ => l.length - (intOf i).toNat)
  case atStart => exact ⟨0, rfl, by omega, fun _ _ h => absurd h (by omega), rfl⟩
  case round =>
    obtain ⟨k, rfl, hk, hno, rfl⟩ := hrel
    have HNO := Lib.hid hno
    clear hno
    by_cases hlt : k < l.length
    · have hlt' : (k : Int) < (l.length : Int) := by omega
      have wk : IntKind.i64.wrap (k : Int) = (k : Int) := IntWalk.i64_in _ (by omega)
      obtain ⟨b', o', e', hc⟩ := H.out.at hlt
      simp only [Option.some.injEq, Addr.mk.injEq] at e'
      obtain ⟨rfl, rfl, -⟩ := e'
      rw [Nat.zero_add] at hc
      obtain ⟨x, hx⟩ : ∃ x, l[k] = x := ⟨_, rfl⟩
      rw [hx] at hc
      have HX := Lib.hid hx
      clear hx
      by_cases he : v = x
      · subst he
        go_wp2
        go_ret
        refine ⟨_, rfl, ?_, rfl⟩
        have : l.contains v = true := by rw [List.contains_iff_mem]; rw [← HX.out]; exact List.getElem_mem hlt
        simp only [Ix, inL, this]
        simp
      · have he' : (v == x) = false := by simpa using he
        go_wp2
        go_roundw
        case rel => exact ⟨k + 1, by go_num, by omega, fun j hj hjk => by
          by_cases hjk2 : j < k
          · exact HNO.out j hj hjk2
          · obtain rfl : j = k := by omega
            rw [HX.out]; exact fun h => he h.symm, by simp⟩
        case measure => simp [intOf]; omega
    · have hlt' : ¬ (k : Int) < (l.length : Int) := by omega
      go_wp2
      go_ret
      refine ⟨-1, rfl, ?_, rfl⟩
      have : l.contains v = false := by
        cases hc : l.contains v with
        | false => rfl
        | true =>
          rw [List.contains_iff_mem] at hc
          obtain ⟨j, hj, hjv⟩ := List.getElem_of_mem hc
          exact absurd hjv (HNO.out j hj (by omega))
      simp only [Ix, inL, this]; decide
theorem contains_any (l : List Int) (b c : Nat) (v : Int) (w : World) (h : HasQ w ⟨some ⟨b, 0, none⟩, l.length, c⟩ l) (hz : l.length ≤ 1000) :
    Calls Tryz.prog 104 #[.slice (some ⟨b, 0, none⟩) l.length c, .int .i64 v] w fun e w' => e = .returned (.bool (inL l v)) ∧ w = w' := by
  have H := Lib.hid h
  clear h
  go_enter Tryz.func104, Tryz.ntmps104
  go_wp2_with fail
  refine (index_any l b c v _ H.out hz).mono ?_
  rintro e y ⟨r, rfl, hr, rfl⟩
  have HR := Lib.hid hr
  clear hr
  go_wp2
  go_ret
  exact ⟨by rw [show inL l v = decide (0 ≤ r) from HR.out]; rfl, rfl⟩
theorem contains_val {l : List Int} {b c : Nat} {v : Int} {u : Bool} (hu : inL l v = u) (w : World) (h : HasQ w ⟨some ⟨b, 0, none⟩, l.length, c⟩ l) (hz : l.length ≤ 1000) :
    Calls Tryz.prog 104 #[.slice (some ⟨b, 0, none⟩) l.length c, .int .i64 v] w fun e w' => e = .returned (.bool u) ∧ w = w' := by
  subst hu; exact contains_any l b c v w h hz
theorem imp_any (a b : Bool) (w : World) :
    Calls Tryz.prog 119 #[.bool a, .bool b] w fun e w' => e = .returned (.bool (!a || b)) ∧ w = w' := by
  cases a <;> cases b
  all_goals
    go_enter Tryz.func119, Tryz.ntmps119
    go_wp2
    go_ret
    exact ⟨rfl, rfl⟩
theorem imp_val {a b c : Bool} (h : (!a || b) = c) (w : World) :
    Calls Tryz.prog 119 #[.bool a, .bool b] w fun e w' => e = .returned (.bool c) ∧ w = w' := by
  subst h; exact imp_any a b w

set_option maxHeartbeats 2000000 in
theorem rightSuff_any (b n : Nat) (rd wr : Bool) (r : R5) (w : World) :
    Calls Tryz.prog 105 #[.agg (reqC b n rd wr), rgt r.t r.v r.r r.w r.k] w fun e w' => e = .returned (.bool ((!rd || r.r) && (!wr || r.w))) ∧ Below w.heap.size w w' := by
  have HK0 := Lib.hid (((Kn.refl (w := w)).new 110 (reqC b n rd wr)).new 34 r.cs)
  obtain ⟨v1, h1⟩ : ∃ v1, (!rd || r.r) = v1 := ⟨_, rfl⟩
  have H1 := Lib.hid h1
  rw [h1]
  clear h1
  go_enter Tryz.func105, Tryz.ntmps105
  go_wp2_with fail
  refine (imp_val H1.out _).mono ?_
  rintro e y ⟨rfl, rfl⟩
  cases v1
  · go_wp2
    go_ret
    exact ⟨rfl, HK0.out.1⟩
  go_wp2_with fail
  refine (imp_any _ _ _).mono ?_
  rintro e y ⟨rfl, rfl⟩
  go_wp2
  go_ret
  exact ⟨by simp, HK0.out.1⟩
theorem rightSuff_val {b n : Nat} {rd wr : Bool} {r : R5} {u : Bool} (h : ((!rd || r.r) && (!wr || r.w)) = u) (w : World) :
    Calls Tryz.prog 105 #[.agg (reqC b n rd wr), rgt r.t r.v r.r r.w r.k] w fun e w' => e = .returned (.bool u) ∧ Below w.heap.size w w' := by
  subst h; exact rightSuff_any b n rd wr r w

set_option maxHeartbeats 8000000 in
theorem labSuff_any (b n : Nat) (rd wr : Bool) (p x : T8) (s q s2 q2 : Sl) (w : World) :
    Calls Tryz.prog 106 #[.agg (reqC b n rd wr), p.val s q, x.val s2 q2] w fun e w' => e = .returned (.bool ((!rd || seesT p x) && (!wr || touT p x))) ∧ Below w.heap.size w w' := by
  have hk := ((((Kn.refl (w := w)).new 110 (reqC b n rd wr)).new 40 (p.cs s q)).new 40 (x.cs s2 q2))
  rw [show ((w.alloc (.cells (reqC b n rd wr) 110)).alloc (.cells (p.cs s q) 40)).heap.size = w.heap.size + 1 + 1 by simp, show (w.alloc (.cells (reqC b n rd wr) 110)).heap.size = w.heap.size + 1 by simp] at hk
  have E0 := Lib.hid hk
  clear hk
  obtain ⟨u, hu⟩ : ∃ u, seesT p x = u := ⟨_, rfl⟩
  obtain ⟨t, ht⟩ : ∃ t, touT p x = t := ⟨_, rfl⟩
  have HU := Lib.hid hu
  have HTo := Lib.hid ht
  rw [hu, ht]
  clear hu ht
  have a0 := fun zz : Wd (Kn w [(w.heap.size + 1 + 1, 40, x.cs s2 q2), (w.heap.size + 1, 40, p.cs s q), (w.heap.size, 110, reqC b n rd wr)]) => zz.ok.c (b := w.heap.size) (T := 110) (vs := reqC b n rd wr) (by simp) 0 _ rfl
  have a1 := fun zz : Wd (Kn w [(w.heap.size + 1 + 1, 40, x.cs s2 q2), (w.heap.size + 1, 40, p.cs s q), (w.heap.size, 110, reqC b n rd wr)]) => zz.ok.c (b := w.heap.size) (T := 110) (vs := reqC b n rd wr) (by simp) 1 _ rfl
  have a2 := fun zz : Wd (Kn w [(w.heap.size + 1 + 1, 40, x.cs s2 q2), (w.heap.size + 1, 40, p.cs s q), (w.heap.size, 110, reqC b n rd wr)]) => zz.ok.c (b := w.heap.size) (T := 110) (vs := reqC b n rd wr) (by simp) 2 _ rfl
  have b0 := fun zz : Wd (Kn w [(w.heap.size + 1 + 1, 40, x.cs s2 q2), (w.heap.size + 1, 40, p.cs s q), (w.heap.size, 110, reqC b n rd wr)]) => zz.ok.c (b := w.heap.size + 1) (T := 40) (vs := p.cs s q) (by simp) 0 _ rfl
  have b1 := fun zz : Wd (Kn w [(w.heap.size + 1 + 1, 40, x.cs s2 q2), (w.heap.size + 1, 40, p.cs s q), (w.heap.size, 110, reqC b n rd wr)]) => zz.ok.c (b := w.heap.size + 1) (T := 40) (vs := p.cs s q) (by simp) 1 _ rfl
  have b2 := fun zz : Wd (Kn w [(w.heap.size + 1 + 1, 40, x.cs s2 q2), (w.heap.size + 1, 40, p.cs s q), (w.heap.size, 110, reqC b n rd wr)]) => zz.ok.c (b := w.heap.size + 1) (T := 40) (vs := p.cs s q) (by simp) 2 _ rfl
  have b3 := fun zz : Wd (Kn w [(w.heap.size + 1 + 1, 40, x.cs s2 q2), (w.heap.size + 1, 40, p.cs s q), (w.heap.size, 110, reqC b n rd wr)]) => zz.ok.c (b := w.heap.size + 1) (T := 40) (vs := p.cs s q) (by simp) 3 _ rfl
  have b4 := fun zz : Wd (Kn w [(w.heap.size + 1 + 1, 40, x.cs s2 q2), (w.heap.size + 1, 40, p.cs s q), (w.heap.size, 110, reqC b n rd wr)]) => zz.ok.c (b := w.heap.size + 1) (T := 40) (vs := p.cs s q) (by simp) 4 _ rfl
  have b5 := fun zz : Wd (Kn w [(w.heap.size + 1 + 1, 40, x.cs s2 q2), (w.heap.size + 1, 40, p.cs s q), (w.heap.size, 110, reqC b n rd wr)]) => zz.ok.c (b := w.heap.size + 1) (T := 40) (vs := p.cs s q) (by simp) 5 _ rfl
  have b6 := fun zz : Wd (Kn w [(w.heap.size + 1 + 1, 40, x.cs s2 q2), (w.heap.size + 1, 40, p.cs s q), (w.heap.size, 110, reqC b n rd wr)]) => zz.ok.c (b := w.heap.size + 1) (T := 40) (vs := p.cs s q) (by simp) 6 _ rfl
  have b7 := fun zz : Wd (Kn w [(w.heap.size + 1 + 1, 40, x.cs s2 q2), (w.heap.size + 1, 40, p.cs s q), (w.heap.size, 110, reqC b n rd wr)]) => zz.ok.c (b := w.heap.size + 1) (T := 40) (vs := p.cs s q) (by simp) 7 _ rfl
  have c0 := fun zz : Wd (Kn w [(w.heap.size + 1 + 1, 40, x.cs s2 q2), (w.heap.size + 1, 40, p.cs s q), (w.heap.size, 110, reqC b n rd wr)]) => zz.ok.c (b := w.heap.size + 1 + 1) (T := 40) (vs := x.cs s2 q2) (by simp) 0 _ rfl
  have c1 := fun zz : Wd (Kn w [(w.heap.size + 1 + 1, 40, x.cs s2 q2), (w.heap.size + 1, 40, p.cs s q), (w.heap.size, 110, reqC b n rd wr)]) => zz.ok.c (b := w.heap.size + 1 + 1) (T := 40) (vs := x.cs s2 q2) (by simp) 1 _ rfl
  have c2 := fun zz : Wd (Kn w [(w.heap.size + 1 + 1, 40, x.cs s2 q2), (w.heap.size + 1, 40, p.cs s q), (w.heap.size, 110, reqC b n rd wr)]) => zz.ok.c (b := w.heap.size + 1 + 1) (T := 40) (vs := x.cs s2 q2) (by simp) 2 _ rfl
  have c3 := fun zz : Wd (Kn w [(w.heap.size + 1 + 1, 40, x.cs s2 q2), (w.heap.size + 1, 40, p.cs s q), (w.heap.size, 110, reqC b n rd wr)]) => zz.ok.c (b := w.heap.size + 1 + 1) (T := 40) (vs := x.cs s2 q2) (by simp) 3 _ rfl
  have c4 := fun zz : Wd (Kn w [(w.heap.size + 1 + 1, 40, x.cs s2 q2), (w.heap.size + 1, 40, p.cs s q), (w.heap.size, 110, reqC b n rd wr)]) => zz.ok.c (b := w.heap.size + 1 + 1) (T := 40) (vs := x.cs s2 q2) (by simp) 4 _ rfl
  have c5 := fun zz : Wd (Kn w [(w.heap.size + 1 + 1, 40, x.cs s2 q2), (w.heap.size + 1, 40, p.cs s q), (w.heap.size, 110, reqC b n rd wr)]) => zz.ok.c (b := w.heap.size + 1 + 1) (T := 40) (vs := x.cs s2 q2) (by simp) 5 _ rfl
  have c6 := fun zz : Wd (Kn w [(w.heap.size + 1 + 1, 40, x.cs s2 q2), (w.heap.size + 1, 40, p.cs s q), (w.heap.size, 110, reqC b n rd wr)]) => zz.ok.c (b := w.heap.size + 1 + 1) (T := 40) (vs := x.cs s2 q2) (by simp) 6 _ rfl
  have c7 := fun zz : Wd (Kn w [(w.heap.size + 1 + 1, 40, x.cs s2 q2), (w.heap.size + 1, 40, p.cs s q), (w.heap.size, 110, reqC b n rd wr)]) => zz.ok.c (b := w.heap.size + 1 + 1) (T := 40) (vs := x.cs s2 q2) (by simp) 7 _ rfl
  have ne : Nonempty (Wd (Kn w [(w.heap.size + 1 + 1, 40, x.cs s2 q2), (w.heap.size + 1, 40, p.cs s q), (w.heap.size, 110, reqC b n rd wr)])) := ⟨⟨_, E0.out.drew⟩⟩
  have A1 := Lib.hid (fun y => observes_val HU.out s q s2 q2 y)
  have A2 := Lib.hid (fun y => modifies_val HTo.out s q s2 q2 y)
  have HUT := Lib.hid (And.intro HU.out HTo.out)
  clear HU HTo
  cases rd <;> cases wr <;> cases u <;> cases t
  all_goals
    go_enter Tryz.func106, Tryz.ntmps106
    go_upto_region 1 with fail
    refine wp_region_quiet (C := fun y => ∃ zz : Wd (Kn w [(w.heap.size + 1 + 1, 40, x.cs s2 q2), (w.heap.size + 1, 40, p.cs s q), (w.heap.size, 110, reqC b n _ _)]), y = zz.w) (by kernel_rfl) (by kernel_rfl) ⟨⟨_, E0.out.drew⟩, rfl⟩ ?_
    show wpQuiet _ _ _ _ [_, _, _, _, _, _, _, _, _, _, _, _, _, _, _] _
    repeat (first | go_big_quiet_step ((first | (go_at_call 49; exact inCls Kn.stay (A1.out _)) | (go_at_call 120; exact inCls Kn.stay (A2.out _)) | (go_at_call 119; exact inClsSame (imp_any _ _ _)))) | quiet_step ((first | (go_at_call 49; exact inCls Kn.stay (A1.out _)) | (go_at_call 120; exact inCls Kn.stay (A2.out _)) | (go_at_call 119; exact inClsSame (imp_any _ _ _)))))
    refine wpQuiet_nil ?_
    rintro _ ⟨t3, rfl⟩
    clear ne a0 a1 a2 b0 b1 b2 b3 b4 b5 b6 b7 c0 c1 c2 c3 c4 c5 c6 c7
    obtain ⟨y5, D5⟩ := t3
    dsimp only
    go_wp2
    go_ret
    exact ⟨rfl, D5.1⟩
theorem labSuff_val {b n : Nat} {rd wr : Bool} {p x : T8} {u : Bool} (h : ((!rd || seesT p x) && (!wr || touT p x)) = u) (s q s2 q2 : Sl) (w : World) :
    Calls Tryz.prog 106 #[.agg (reqC b n rd wr), p.val s q, x.val s2 q2] w fun e w' => e = .returned (.bool u) ∧ Below w.heap.size w w' := by
  subst h; exact labSuff_any b n rd wr p x s q s2 q2 w
end Go.Proofs.YtbopficnajdaoaaGreatDoor
