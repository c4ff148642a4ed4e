/-
  The library's table of powers, as the program's own text lays it.
-/
import Derived.Test.YtpahahonopiblaaDoorTxtI
import Derived.Lib.LaidTab
namespace Go.Proofs.YtpahahonopiblaaDoor
open Go.RowKit Go.ChangeShapes
set_option maxRecDepth 100000
theorem tp_of {W : World} {rest : List (String × DataW Unit)} (h : laidMet Tryd.prog (("internal/strconv.uint64pow10", Rows.laid_internal_strconv_uint64pow10) :: rest) W) : TP W :=
  Lib.tabIs_of_head (g := 1) (t := 164) (e := 156) (n := 20) (by kernel_rfl) (by kernel_rfl) Tryd.underlying164 Tryd.underlying156 (by kernel_rfl) (by kernel_rfl) h
end Go.Proofs.YtpahahonopiblaaDoor
