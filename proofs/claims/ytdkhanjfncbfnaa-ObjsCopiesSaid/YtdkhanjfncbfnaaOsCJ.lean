import Derived.Test.YtdkhanjfncbfnaaOsCH
import Derived.Test.YtdkhanjfncbfnaaOsT
namespace Go.Proofs.Ytdkhanjfncbfnaa
open Go Go.RowKit
set_option linter.unusedVariables false

theorem copies_walk (a0 : Option Addr) (len0 cap0 : Nat) (z0 : List Int) {W : World} (h : IsRow .i64 W a0 len0 cap0 z0) (a1 : Bool) :
    Calls Try.prog 8 #[.slice a0 len0 cap0, .bool a1] W (BoolRes true W) := copies_any a0 len0 cap0 (row_of h).1 _ a1 W (row_of h).2
end Go.Proofs.Ytdkhanjfncbfnaa
