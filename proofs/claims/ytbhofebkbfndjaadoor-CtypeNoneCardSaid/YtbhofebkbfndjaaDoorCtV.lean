import Derived.Test.YtbhofebkbfndjaaDoorCtU
import Derived.Test.YtbhofebkbfndjaaDoorCards
import Derived.Test.YtbhofebkbfndjaaDoorTie
import Derived.ProofKit
import Derived.OpenShut
import Derived.LaidMore
import Derived.MakeChecks
import Derived.Stop.LaidErr
import Derived.Shelf.Vars
import Derived.Deep.DeepHandedRow
import Derived.Deep.DeepWitnessRowRef
namespace Go.Proofs.YtbhofebkbfndjaaDoor
open Go.ChangeShapes Go.WideShapes Go.ChangeAt Go.RowKit

theorem own : ownKnob Tryd.prog.godebug = none := by kernel_rfl
theorem laidOut : laidOutB Tryd.prog = true := by kernel_rfl
def laid5 : List (String × DataW Unit) := Rows.ctypeNoneRow.laid
def G (_ : World) : Prop := True
theorem G.of {W : World} (_ : laidMetH Tryd.prog laid5 W) (_ : W.ShapedOpen Tryd.prog) : G W := trivial
theorem ctypeNone_walk (a0 : Int) (_ : (Lit.int .i64 a0).wf = true) (a1 : Int) (_ : (Lit.int .i64 a1).wf = true) (W : World) (_ : G W) :
    Calls Tryd.prog 4 #[.int .i64 a0, .int .i64 a1] W fun e w' => e = .returned (.bool true) ∧ Below W.heap.size W w' := (ctypeNone_any a0 a1 W).mono fun _ _ h => h

noncomputable def doorWorld (os : Os) : World := World.doorLaid Tryd.prog 2000 os
theorem door_met (os : Os) (args : Array Value) : laidMetH Tryd.prog laid5 (((doorWorld os).forCall (fun _ _ => 0) ⟨#[], args, []⟩).memory) :=
  laidMetH_of_parts3 (fuel := 8) (laidMet_of_run' 8 (by kernel_rfl) (by kernel_rfl)) (by kernel_rfl) (by kernel_rfl)
end Go.Proofs.YtbhofebkbfndjaaDoor
