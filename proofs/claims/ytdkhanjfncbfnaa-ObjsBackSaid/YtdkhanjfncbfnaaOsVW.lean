import Derived.Test.YtdkhanjfncbfnaaOsV
import Derived.Test.YtdkhanjfncbfnaaOsT
namespace Go.Proofs.Ytdkhanjfncbfnaa
open Go Go.RowKit
set_option linter.unusedVariables false

theorem back_walk (a0 : Int) (w0 : (Lit.int .i64 a0).wf = true) (a1 : Int) (w1 : (Lit.int .i64 a1).wf = true) (a2 : Int) (w2 : (Lit.int .i64 a2).wf = true) (W : World) : Calls Try.prog 5 #[.int .i64 a0, .int .i64 a1, .int .i64 a2] W (BoolRes true W) :=
  back_any a0 a1 a2 (bounds_i64 w2).1 (bounds_i64 w2).2 W
end Go.Proofs.Ytdkhanjfncbfnaa
