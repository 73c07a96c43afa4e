import Derived.Test.YtbhofebkbfndjaaDoorCtC
namespace Go.Proofs.YtbhofebkbfndjaaDoor
open Go Go.RowKit

theorem tyV_int (n : Int) (b c : Bool) : tyV (.int n b c) none = .agg #[.int .i64 1, .int .i64 n, .bool b, .bool c, .pointer none, .int .i64 0, .int .i64 0, .slice none 0 0, .pointer none] := rfl

def BoolRes (r : Bool) (w : World) (e : Ending) (w' : World) : Prop := e = .returned (.bool r) ∧ Below w.heap.size w w'

end Go.Proofs.YtbhofebkbfndjaaDoor
