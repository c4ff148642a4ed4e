/-
  Calls as plain data; what CallOk answers, the program's and the model's.
-/
import Derived.Test.YtpahahonopiblaaDoorHas
namespace Go.Proofs.YtpahahonopiblaaDoor
open Go.RowKit
set_option linter.unusedVariables false

/-- A call. -/
structure C5 where
  k : Int
  r : Int
  a : Int
  b : Int
  n : Int
abbrev C5.cs (c : C5) : Array Value := #[.int .i64 c.k, .int .i64 c.r, .int .i64 c.a, .int .i64 c.b, .int .i64 c.n]
abbrev C5.val (c : C5) : Value := .agg c.cs
/-- A call is ok. -/
def C5.ok (c : C5) : Bool := inR c.k 1 9 && (inR c.r 1 8 && (inR c.a 0 3 && (inR c.b 0 3 && inR c.n 0 99)))

set_option maxRecDepth 100000 in
set_option maxHeartbeats 2000000 in
theorem specCallOk_any (c : C5) (w : World) :
    Calls Tryd.prog 106 #[.agg #[.int .i64 c.k, .int .i64 c.r, .int .i64 c.a, .int .i64 c.b, .int .i64 c.n]] w fun e w' => e = .returned (.bool c.ok) ∧ Below w.heap.size w w' := by
  have HK0 := Lib.hid ((Kn.refl (w := w)).new 67 c.cs)
  cases h0 : inR c.k 1 9
  · have H0 := Lib.hid h0
    clear h0
    go_enter Tryd.func106, Tryd.ntmps106
    go_wp2_with fail
    refine (l6In_val H0.out _).mono ?_
    rintro e y0 ⟨rfl, rfl⟩
    go_wp2
    go_ret
    exact ⟨by simp [C5.ok, H0.out], HK0.out.1⟩
  have H0 := Lib.hid h0
  clear h0
  cases h1 : inR c.r 1 8
  · have H1 := Lib.hid h1
    clear h1
    go_enter Tryd.func106, Tryd.ntmps106
    go_wp2_with fail
    refine (l6In_val H0.out _).mono ?_
    rintro e y0 ⟨rfl, rfl⟩
    go_wp2_with fail
    refine (l6In_val H1.out _).mono ?_
    rintro e y1 ⟨rfl, rfl⟩
    go_wp2
    go_ret
    exact ⟨by simp [C5.ok, H0.out, H1.out], HK0.out.1⟩
  have H1 := Lib.hid h1
  clear h1
  cases h2 : inR c.a 0 3
  · have H2 := Lib.hid h2
    clear h2
    go_enter Tryd.func106, Tryd.ntmps106
    go_wp2_with fail
    refine (l6In_val H0.out _).mono ?_
    rintro e y0 ⟨rfl, rfl⟩
    go_wp2_with fail
    refine (l6In_val H1.out _).mono ?_
    rintro e y1 ⟨rfl, rfl⟩
    go_wp2_with fail
    refine (l6In_val H2.out _).mono ?_
    rintro e y2 ⟨rfl, rfl⟩
    go_wp2
    go_ret
    exact ⟨by simp [C5.ok, H0.out, H1.out, H2.out], HK0.out.1⟩
  have H2 := Lib.hid h2
  clear h2
  cases h3 : inR c.b 0 3
  · have H3 := Lib.hid h3
    clear h3
    go_enter Tryd.func106, Tryd.ntmps106
    go_wp2_with fail
    refine (l6In_val H0.out _).mono ?_
    rintro e y0 ⟨rfl, rfl⟩
    go_wp2_with fail
    refine (l6In_val H1.out _).mono ?_
    rintro e y1 ⟨rfl, rfl⟩
    go_wp2_with fail
    refine (l6In_val H2.out _).mono ?_
    rintro e y2 ⟨rfl, rfl⟩
    go_wp2_with fail
    refine (l6In_val H3.out _).mono ?_
    rintro e y3 ⟨rfl, rfl⟩
    go_wp2
    go_ret
    exact ⟨by simp [C5.ok, H0.out, H1.out, H2.out, H3.out], HK0.out.1⟩
  have H3 := Lib.hid h3
  clear h3
  cases h4 : inR c.n 0 99
  · have H4 := Lib.hid h4
    clear h4
    go_enter Tryd.func106, Tryd.ntmps106
    go_wp2_with fail
    refine (l6In_val H0.out _).mono ?_
    rintro e y0 ⟨rfl, rfl⟩
    go_wp2_with fail
    refine (l6In_val H1.out _).mono ?_
    rintro e y1 ⟨rfl, rfl⟩
    go_wp2_with fail
    refine (l6In_val H2.out _).mono ?_
    rintro e y2 ⟨rfl, rfl⟩
    go_wp2_with fail
    refine (l6In_val H3.out _).mono ?_
    rintro e y3 ⟨rfl, rfl⟩
    go_wp2_with fail
    refine (l6In_val H4.out _).mono ?_
    rintro e y4 ⟨rfl, rfl⟩
    go_wp2
    go_ret
    exact ⟨by simp [C5.ok, H0.out, H1.out, H2.out, H3.out, H4.out], HK0.out.1⟩
  have H4 := Lib.hid h4
  clear h4
  go_enter Tryd.func106, Tryd.ntmps106
  go_wp2_with fail
  refine (l6In_val H0.out _).mono ?_
  rintro e y0 ⟨rfl, rfl⟩
  go_wp2_with fail
  refine (l6In_val H1.out _).mono ?_
  rintro e y1 ⟨rfl, rfl⟩
  go_wp2_with fail
  refine (l6In_val H2.out _).mono ?_
  rintro e y2 ⟨rfl, rfl⟩
  go_wp2_with fail
  refine (l6In_val H3.out _).mono ?_
  rintro e y3 ⟨rfl, rfl⟩
  go_wp2_with fail
  refine (l6In_val H4.out _).mono ?_
  rintro e y4 ⟨rfl, rfl⟩
  go_wp2
  go_ret
  exact ⟨by simp [C5.ok, H0.out, H1.out, H2.out, H3.out, H4.out], HK0.out.1⟩
theorem specCallOk_val {c : C5} {v : Bool} (h : c.ok = v) (w : World) :
    Calls Tryd.prog 106 #[.agg #[.int .i64 c.k, .int .i64 c.r, .int .i64 c.a, .int .i64 c.b, .int .i64 c.n]] w fun e w' => e = .returned (.bool v) ∧ Below w.heap.size w w' := by
  subst h; exact specCallOk_any c w

set_option maxRecDepth 100000 in
set_option maxHeartbeats 2000000 in
theorem implCallOk_any (c : C5) (w : World) :
    Calls Tryd.prog 118 #[.agg #[.int .i64 c.k, .int .i64 c.r, .int .i64 c.a, .int .i64 c.b, .int .i64 c.n]] w fun e w' => e = .returned (.bool c.ok) ∧ Below w.heap.size w w' := by
  have HK0 := Lib.hid (((Kn.refl (w := w)).new 67 c.cs).new 82 #[.int .i64 0, .int .i64 3])
  rw [show (w.alloc (.cells c.cs 67)).heap.size = w.heap.size + 1 by simp] at HK0
  cases h0 : inR c.k 1 9
  · have H0 := Lib.hid h0
    clear h0
    go_enter Tryd.func118, Tryd.ntmps118
    go_wp2_with fail
    refine (has_val H0.out _).mono ?_
    rintro e y0 ⟨rfl, hb⟩
    have HK1 := Lib.hid (HK0.out.stay hb)
    clear hb HK0
    go_wp2
    go_ret
    exact ⟨by simp [C5.ok, H0.out], HK1.out.1⟩
  have H0 := Lib.hid h0
  clear h0
  cases h1 : inR c.r 1 8
  · have H1 := Lib.hid h1
    clear h1
    go_enter Tryd.func118, Tryd.ntmps118
    go_wp2_with fail
    refine (has_val H0.out _).mono ?_
    rintro e y0 ⟨rfl, hb⟩
    have HK1 := Lib.hid (HK0.out.stay hb)
    clear hb HK0
    have c0 := HK1.out.c (b := w.heap.size) (T := 67) (vs := c.cs) (by simp) 0 _ rfl
    have c1 := HK1.out.c (b := w.heap.size) (T := 67) (vs := c.cs) (by simp) 1 _ rfl
    have c2 := HK1.out.c (b := w.heap.size) (T := 67) (vs := c.cs) (by simp) 2 _ rfl
    have c3 := HK1.out.c (b := w.heap.size) (T := 67) (vs := c.cs) (by simp) 3 _ rfl
    have c4 := HK1.out.c (b := w.heap.size) (T := 67) (vs := c.cs) (by simp) 4 _ rfl
    have s0 := HK1.out.c (b := w.heap.size + 1) (T := 82) (vs := #[.int .i64 0, .int .i64 3]) (by simp) 0 _ rfl
    have s1 := HK1.out.c (b := w.heap.size + 1) (T := 82) (vs := #[.int .i64 0, .int .i64 3]) (by simp) 1 _ rfl
    go_wp2_with fail
    refine (has_val H1.out _).mono ?_
    rintro e y1 ⟨rfl, hb⟩
    have HK2 := Lib.hid (HK1.out.stay hb)
    clear hb HK1 c0 c1 c2 c3 c4 s0 s1
    go_wp2
    go_ret
    exact ⟨by simp [C5.ok, H0.out, H1.out], HK2.out.1⟩
  have H1 := Lib.hid h1
  clear h1
  cases h2 : inR c.a 0 3
  · have H2 := Lib.hid h2
    clear h2
    go_enter Tryd.func118, Tryd.ntmps118
    go_wp2_with fail
    refine (has_val H0.out _).mono ?_
    rintro e y0 ⟨rfl, hb⟩
    have HK1 := Lib.hid (HK0.out.stay hb)
    clear hb HK0
    have c0 := HK1.out.c (b := w.heap.size) (T := 67) (vs := c.cs) (by simp) 0 _ rfl
    have c1 := HK1.out.c (b := w.heap.size) (T := 67) (vs := c.cs) (by simp) 1 _ rfl
    have c2 := HK1.out.c (b := w.heap.size) (T := 67) (vs := c.cs) (by simp) 2 _ rfl
    have c3 := HK1.out.c (b := w.heap.size) (T := 67) (vs := c.cs) (by simp) 3 _ rfl
    have c4 := HK1.out.c (b := w.heap.size) (T := 67) (vs := c.cs) (by simp) 4 _ rfl
    have s0 := HK1.out.c (b := w.heap.size + 1) (T := 82) (vs := #[.int .i64 0, .int .i64 3]) (by simp) 0 _ rfl
    have s1 := HK1.out.c (b := w.heap.size + 1) (T := 82) (vs := #[.int .i64 0, .int .i64 3]) (by simp) 1 _ rfl
    go_wp2_with fail
    refine (has_val H1.out _).mono ?_
    rintro e y1 ⟨rfl, hb⟩
    have HK2 := Lib.hid (HK1.out.stay hb)
    clear hb HK1 c0 c1 c2 c3 c4 s0 s1
    have c0 := HK2.out.c (b := w.heap.size) (T := 67) (vs := c.cs) (by simp) 0 _ rfl
    have c1 := HK2.out.c (b := w.heap.size) (T := 67) (vs := c.cs) (by simp) 1 _ rfl
    have c2 := HK2.out.c (b := w.heap.size) (T := 67) (vs := c.cs) (by simp) 2 _ rfl
    have c3 := HK2.out.c (b := w.heap.size) (T := 67) (vs := c.cs) (by simp) 3 _ rfl
    have c4 := HK2.out.c (b := w.heap.size) (T := 67) (vs := c.cs) (by simp) 4 _ rfl
    have s0 := HK2.out.c (b := w.heap.size + 1) (T := 82) (vs := #[.int .i64 0, .int .i64 3]) (by simp) 0 _ rfl
    have s1 := HK2.out.c (b := w.heap.size + 1) (T := 82) (vs := #[.int .i64 0, .int .i64 3]) (by simp) 1 _ rfl
    go_wp2_with fail
    refine (has_val H2.out _).mono ?_
    rintro e y2 ⟨rfl, hb⟩
    have HK3 := Lib.hid (HK2.out.stay hb)
    clear hb HK2 c0 c1 c2 c3 c4 s0 s1
    go_wp2
    go_ret
    exact ⟨by simp [C5.ok, H0.out, H1.out, H2.out], HK3.out.1⟩
  have H2 := Lib.hid h2
  clear h2
  cases h3 : inR c.b 0 3
  · have H3 := Lib.hid h3
    clear h3
    go_enter Tryd.func118, Tryd.ntmps118
    go_wp2_with fail
    refine (has_val H0.out _).mono ?_
    rintro e y0 ⟨rfl, hb⟩
    have HK1 := Lib.hid (HK0.out.stay hb)
    clear hb HK0
    have c0 := HK1.out.c (b := w.heap.size) (T := 67) (vs := c.cs) (by simp) 0 _ rfl
    have c1 := HK1.out.c (b := w.heap.size) (T := 67) (vs := c.cs) (by simp) 1 _ rfl
    have c2 := HK1.out.c (b := w.heap.size) (T := 67) (vs := c.cs) (by simp) 2 _ rfl
    have c3 := HK1.out.c (b := w.heap.size) (T := 67) (vs := c.cs) (by simp) 3 _ rfl
    have c4 := HK1.out.c (b := w.heap.size) (T := 67) (vs := c.cs) (by simp) 4 _ rfl
    have s0 := HK1.out.c (b := w.heap.size + 1) (T := 82) (vs := #[.int .i64 0, .int .i64 3]) (by simp) 0 _ rfl
    have s1 := HK1.out.c (b := w.heap.size + 1) (T := 82) (vs := #[.int .i64 0, .int .i64 3]) (by simp) 1 _ rfl
    go_wp2_with fail
    refine (has_val H1.out _).mono ?_
    rintro e y1 ⟨rfl, hb⟩
    have HK2 := Lib.hid (HK1.out.stay hb)
    clear hb HK1 c0 c1 c2 c3 c4 s0 s1
    have c0 := HK2.out.c (b := w.heap.size) (T := 67) (vs := c.cs) (by simp) 0 _ rfl
    have c1 := HK2.out.c (b := w.heap.size) (T := 67) (vs := c.cs) (by simp) 1 _ rfl
    have c2 := HK2.out.c (b := w.heap.size) (T := 67) (vs := c.cs) (by simp) 2 _ rfl
    have c3 := HK2.out.c (b := w.heap.size) (T := 67) (vs := c.cs) (by simp) 3 _ rfl
    have c4 := HK2.out.c (b := w.heap.size) (T := 67) (vs := c.cs) (by simp) 4 _ rfl
    have s0 := HK2.out.c (b := w.heap.size + 1) (T := 82) (vs := #[.int .i64 0, .int .i64 3]) (by simp) 0 _ rfl
    have s1 := HK2.out.c (b := w.heap.size + 1) (T := 82) (vs := #[.int .i64 0, .int .i64 3]) (by simp) 1 _ rfl
    go_wp2_with fail
    refine (has_val H2.out _).mono ?_
    rintro e y2 ⟨rfl, hb⟩
    have HK3 := Lib.hid (HK2.out.stay hb)
    clear hb HK2 c0 c1 c2 c3 c4 s0 s1
    have c0 := HK3.out.c (b := w.heap.size) (T := 67) (vs := c.cs) (by simp) 0 _ rfl
    have c1 := HK3.out.c (b := w.heap.size) (T := 67) (vs := c.cs) (by simp) 1 _ rfl
    have c2 := HK3.out.c (b := w.heap.size) (T := 67) (vs := c.cs) (by simp) 2 _ rfl
    have c3 := HK3.out.c (b := w.heap.size) (T := 67) (vs := c.cs) (by simp) 3 _ rfl
    have c4 := HK3.out.c (b := w.heap.size) (T := 67) (vs := c.cs) (by simp) 4 _ rfl
    have s0 := HK3.out.c (b := w.heap.size + 1) (T := 82) (vs := #[.int .i64 0, .int .i64 3]) (by simp) 0 _ rfl
    have s1 := HK3.out.c (b := w.heap.size + 1) (T := 82) (vs := #[.int .i64 0, .int .i64 3]) (by simp) 1 _ rfl
    go_wp2_with fail
    refine (has_val H3.out _).mono ?_
    rintro e y3 ⟨rfl, hb⟩
    have HK4 := Lib.hid (HK3.out.stay hb)
    clear hb HK3 c0 c1 c2 c3 c4 s0 s1
    go_wp2
    go_ret
    exact ⟨by simp [C5.ok, H0.out, H1.out, H2.out, H3.out], HK4.out.1⟩
  have H3 := Lib.hid h3
  clear h3
  cases h4 : inR c.n 0 99
  · have H4 := Lib.hid h4
    clear h4
    go_enter Tryd.func118, Tryd.ntmps118
    go_wp2_with fail
    refine (has_val H0.out _).mono ?_
    rintro e y0 ⟨rfl, hb⟩
    have HK1 := Lib.hid (HK0.out.stay hb)
    clear hb HK0
    have c0 := HK1.out.c (b := w.heap.size) (T := 67) (vs := c.cs) (by simp) 0 _ rfl
    have c1 := HK1.out.c (b := w.heap.size) (T := 67) (vs := c.cs) (by simp) 1 _ rfl
    have c2 := HK1.out.c (b := w.heap.size) (T := 67) (vs := c.cs) (by simp) 2 _ rfl
    have c3 := HK1.out.c (b := w.heap.size) (T := 67) (vs := c.cs) (by simp) 3 _ rfl
    have c4 := HK1.out.c (b := w.heap.size) (T := 67) (vs := c.cs) (by simp) 4 _ rfl
    have s0 := HK1.out.c (b := w.heap.size + 1) (T := 82) (vs := #[.int .i64 0, .int .i64 3]) (by simp) 0 _ rfl
    have s1 := HK1.out.c (b := w.heap.size + 1) (T := 82) (vs := #[.int .i64 0, .int .i64 3]) (by simp) 1 _ rfl
    go_wp2_with fail
    refine (has_val H1.out _).mono ?_
    rintro e y1 ⟨rfl, hb⟩
    have HK2 := Lib.hid (HK1.out.stay hb)
    clear hb HK1 c0 c1 c2 c3 c4 s0 s1
    have c0 := HK2.out.c (b := w.heap.size) (T := 67) (vs := c.cs) (by simp) 0 _ rfl
    have c1 := HK2.out.c (b := w.heap.size) (T := 67) (vs := c.cs) (by simp) 1 _ rfl
    have c2 := HK2.out.c (b := w.heap.size) (T := 67) (vs := c.cs) (by simp) 2 _ rfl
    have c3 := HK2.out.c (b := w.heap.size) (T := 67) (vs := c.cs) (by simp) 3 _ rfl
    have c4 := HK2.out.c (b := w.heap.size) (T := 67) (vs := c.cs) (by simp) 4 _ rfl
    have s0 := HK2.out.c (b := w.heap.size + 1) (T := 82) (vs := #[.int .i64 0, .int .i64 3]) (by simp) 0 _ rfl
    have s1 := HK2.out.c (b := w.heap.size + 1) (T := 82) (vs := #[.int .i64 0, .int .i64 3]) (by simp) 1 _ rfl
    go_wp2_with fail
    refine (has_val H2.out _).mono ?_
    rintro e y2 ⟨rfl, hb⟩
    have HK3 := Lib.hid (HK2.out.stay hb)
    clear hb HK2 c0 c1 c2 c3 c4 s0 s1
    have c0 := HK3.out.c (b := w.heap.size) (T := 67) (vs := c.cs) (by simp) 0 _ rfl
    have c1 := HK3.out.c (b := w.heap.size) (T := 67) (vs := c.cs) (by simp) 1 _ rfl
    have c2 := HK3.out.c (b := w.heap.size) (T := 67) (vs := c.cs) (by simp) 2 _ rfl
    have c3 := HK3.out.c (b := w.heap.size) (T := 67) (vs := c.cs) (by simp) 3 _ rfl
    have c4 := HK3.out.c (b := w.heap.size) (T := 67) (vs := c.cs) (by simp) 4 _ rfl
    have s0 := HK3.out.c (b := w.heap.size + 1) (T := 82) (vs := #[.int .i64 0, .int .i64 3]) (by simp) 0 _ rfl
    have s1 := HK3.out.c (b := w.heap.size + 1) (T := 82) (vs := #[.int .i64 0, .int .i64 3]) (by simp) 1 _ rfl
    go_wp2_with fail
    refine (has_val H3.out _).mono ?_
    rintro e y3 ⟨rfl, hb⟩
    have HK4 := Lib.hid (HK3.out.stay hb)
    clear hb HK3 c0 c1 c2 c3 c4 s0 s1
    have c0 := HK4.out.c (b := w.heap.size) (T := 67) (vs := c.cs) (by simp) 0 _ rfl
    have c1 := HK4.out.c (b := w.heap.size) (T := 67) (vs := c.cs) (by simp) 1 _ rfl
    have c2 := HK4.out.c (b := w.heap.size) (T := 67) (vs := c.cs) (by simp) 2 _ rfl
    have c3 := HK4.out.c (b := w.heap.size) (T := 67) (vs := c.cs) (by simp) 3 _ rfl
    have c4 := HK4.out.c (b := w.heap.size) (T := 67) (vs := c.cs) (by simp) 4 _ rfl
    have s0 := HK4.out.c (b := w.heap.size + 1) (T := 82) (vs := #[.int .i64 0, .int .i64 3]) (by simp) 0 _ rfl
    have s1 := HK4.out.c (b := w.heap.size + 1) (T := 82) (vs := #[.int .i64 0, .int .i64 3]) (by simp) 1 _ rfl
    go_wp2_with fail
    refine (has_val H4.out _).mono ?_
    rintro e y4 ⟨rfl, hb⟩
    have HK5 := Lib.hid (HK4.out.stay hb)
    clear hb HK4 c0 c1 c2 c3 c4 s0 s1
    go_wp2
    go_ret
    exact ⟨by simp [C5.ok, H0.out, H1.out, H2.out, H3.out, H4.out], HK5.out.1⟩
  have H4 := Lib.hid h4
  clear h4
  go_enter Tryd.func118, Tryd.ntmps118
  go_wp2_with fail
  refine (has_val H0.out _).mono ?_
  rintro e y0 ⟨rfl, hb⟩
  have HK1 := Lib.hid (HK0.out.stay hb)
  clear hb HK0
  have c0 := HK1.out.c (b := w.heap.size) (T := 67) (vs := c.cs) (by simp) 0 _ rfl
  have c1 := HK1.out.c (b := w.heap.size) (T := 67) (vs := c.cs) (by simp) 1 _ rfl
  have c2 := HK1.out.c (b := w.heap.size) (T := 67) (vs := c.cs) (by simp) 2 _ rfl
  have c3 := HK1.out.c (b := w.heap.size) (T := 67) (vs := c.cs) (by simp) 3 _ rfl
  have c4 := HK1.out.c (b := w.heap.size) (T := 67) (vs := c.cs) (by simp) 4 _ rfl
  have s0 := HK1.out.c (b := w.heap.size + 1) (T := 82) (vs := #[.int .i64 0, .int .i64 3]) (by simp) 0 _ rfl
  have s1 := HK1.out.c (b := w.heap.size + 1) (T := 82) (vs := #[.int .i64 0, .int .i64 3]) (by simp) 1 _ rfl
  go_wp2_with fail
  refine (has_val H1.out _).mono ?_
  rintro e y1 ⟨rfl, hb⟩
  have HK2 := Lib.hid (HK1.out.stay hb)
  clear hb HK1 c0 c1 c2 c3 c4 s0 s1
  have c0 := HK2.out.c (b := w.heap.size) (T := 67) (vs := c.cs) (by simp) 0 _ rfl
  have c1 := HK2.out.c (b := w.heap.size) (T := 67) (vs := c.cs) (by simp) 1 _ rfl
  have c2 := HK2.out.c (b := w.heap.size) (T := 67) (vs := c.cs) (by simp) 2 _ rfl
  have c3 := HK2.out.c (b := w.heap.size) (T := 67) (vs := c.cs) (by simp) 3 _ rfl
  have c4 := HK2.out.c (b := w.heap.size) (T := 67) (vs := c.cs) (by simp) 4 _ rfl
  have s0 := HK2.out.c (b := w.heap.size + 1) (T := 82) (vs := #[.int .i64 0, .int .i64 3]) (by simp) 0 _ rfl
  have s1 := HK2.out.c (b := w.heap.size + 1) (T := 82) (vs := #[.int .i64 0, .int .i64 3]) (by simp) 1 _ rfl
  go_wp2_with fail
  refine (has_val H2.out _).mono ?_
  rintro e y2 ⟨rfl, hb⟩
  have HK3 := Lib.hid (HK2.out.stay hb)
  clear hb HK2 c0 c1 c2 c3 c4 s0 s1
  have c0 := HK3.out.c (b := w.heap.size) (T := 67) (vs := c.cs) (by simp) 0 _ rfl
  have c1 := HK3.out.c (b := w.heap.size) (T := 67) (vs := c.cs) (by simp) 1 _ rfl
  have c2 := HK3.out.c (b := w.heap.size) (T := 67) (vs := c.cs) (by simp) 2 _ rfl
  have c3 := HK3.out.c (b := w.heap.size) (T := 67) (vs := c.cs) (by simp) 3 _ rfl
  have c4 := HK3.out.c (b := w.heap.size) (T := 67) (vs := c.cs) (by simp) 4 _ rfl
  have s0 := HK3.out.c (b := w.heap.size + 1) (T := 82) (vs := #[.int .i64 0, .int .i64 3]) (by simp) 0 _ rfl
  have s1 := HK3.out.c (b := w.heap.size + 1) (T := 82) (vs := #[.int .i64 0, .int .i64 3]) (by simp) 1 _ rfl
  go_wp2_with fail
  refine (has_val H3.out _).mono ?_
  rintro e y3 ⟨rfl, hb⟩
  have HK4 := Lib.hid (HK3.out.stay hb)
  clear hb HK3 c0 c1 c2 c3 c4 s0 s1
  have c0 := HK4.out.c (b := w.heap.size) (T := 67) (vs := c.cs) (by simp) 0 _ rfl
  have c1 := HK4.out.c (b := w.heap.size) (T := 67) (vs := c.cs) (by simp) 1 _ rfl
  have c2 := HK4.out.c (b := w.heap.size) (T := 67) (vs := c.cs) (by simp) 2 _ rfl
  have c3 := HK4.out.c (b := w.heap.size) (T := 67) (vs := c.cs) (by simp) 3 _ rfl
  have c4 := HK4.out.c (b := w.heap.size) (T := 67) (vs := c.cs) (by simp) 4 _ rfl
  have s0 := HK4.out.c (b := w.heap.size + 1) (T := 82) (vs := #[.int .i64 0, .int .i64 3]) (by simp) 0 _ rfl
  have s1 := HK4.out.c (b := w.heap.size + 1) (T := 82) (vs := #[.int .i64 0, .int .i64 3]) (by simp) 1 _ rfl
  go_wp2_with fail
  refine (has_val H4.out _).mono ?_
  rintro e y4 ⟨rfl, hb⟩
  have HK5 := Lib.hid (HK4.out.stay hb)
  clear hb HK4 c0 c1 c2 c3 c4 s0 s1
  go_wp2
  go_ret
  exact ⟨by simp [C5.ok, H0.out, H1.out, H2.out, H3.out, H4.out], HK5.out.1⟩
theorem implCallOk_val {c : C5} {v : Bool} (h : c.ok = v) (w : World) :
    Calls Tryd.prog 118 #[.agg #[.int .i64 c.k, .int .i64 c.r, .int .i64 c.a, .int .i64 c.b, .int .i64 c.n]] w fun e w' => e = .returned (.bool v) ∧ Below w.heap.size w w' := by
  subst h; exact implCallOk_any c w

set_option maxRecDepth 100000 in
set_option maxHeartbeats 2000000 in
theorem toCall_any (c : C5) (w : World) :
    Calls Tryd.prog 75 #[.agg #[.int .i64 c.k, .int .i64 c.r, .int .i64 c.a, .int .i64 c.b, .int .i64 c.n]] w fun e w' => e = .returned (.agg #[.int .i64 c.k, .int .i64 c.r, .int .i64 c.a, .int .i64 c.b, .int .i64 c.n]) ∧ Below w.heap.size w w' := by
  go_enter Tryd.func75, Tryd.ntmps75
  go_wp2
  refine bodyPost_ret (v := c.val) (by simp [results, Tryd.results75, go_sem]) rfl ⟨rfl, ?_⟩
  exact (((Below.refl _ _).alloc (Nat.le_refl _) _).alloc (by simp) _).alloc (by simp; omega) _
end Go.Proofs.YtpahahonopiblaaDoor
