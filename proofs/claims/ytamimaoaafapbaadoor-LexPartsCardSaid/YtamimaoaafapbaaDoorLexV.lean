import Derived.Test.YtamimaoaafapbaaDoorLexT
import Derived.Test.YtamimaoaafapbaaDoorCards
import Derived.Test.YtamimaoaafapbaaDoorTie
import Derived.ProofKit
import Derived.OpenShut
import Derived.LaidMore
import Derived.MakeChecks
import Derived.Stop.LaidErr
import Derived.Shelf.Vars
import Derived.Deep.DeepHandedRow
import Derived.Deep.DeepWitnessRowRef
namespace Go.Proofs.YtamimaoaafapbaaDoor
open Go.ChangeShapes Go.WideShapes Go.ChangeAt Go.RowKit

theorem own : ownKnob Tryd.prog.godebug = none := by kernel_rfl
theorem laidOut : laidOutB Tryd.prog = true := by kernel_rfl
def laid5 : List (String × DataW Unit) := Rows.lexWordsRow.laid
theorem gRng : Tryd.prog.globalNamed "strconv.ErrRange" = some 2 := by kernel_rfl
theorem gRngT : (Tryd.prog.globals[2]?).map (·.type) = some 58 := by kernel_rfl
theorem gSyn : Tryd.prog.globalNamed "strconv.ErrSyntax" = some 1 := by kernel_rfl
theorem gSynT : (Tryd.prog.globals[1]?).map (·.type) = some 58 := by kernel_rfl
theorem cellsES : Tryd.prog.cellsOf 82 = 1 := by kernel_rfl
theorem cellsS : Tryd.prog.cellsOf 9 = 1 := by kernel_rfl
theorem starES : "*" ++ "errors.errorString" = "*errors.errorString" := by decide
theorem rowES (u : TypeId) (h : Tryd.prog.typeName? 3 u = some "*errors.errorString") : u = 80 :=
  typeName_ptr_named (nm := "errors.errorString") (by rw [starES]; kernel_rfl) (by kernel_rfl) (by decide) u (by rw [starES]; exact h)

theorem G.of {W : World} (hL : laidMetH Tryd.prog laid5 W) (hsh : W.ShapedOpen Tryd.prog) : G W := by
  rw [MakeChecks.laidMetH_plain _ _ _ (by kernel_rfl)] at hL
  have h3 := hL.tail.tail.tail
  obtain ⟨a, s, hv, _⟩ := laid_sentinel h3 gRng gRngT Tryd.underlying58 rowES Tryd.underlying80 Tryd.underlying82 rfl rfl Tryd.underlying9 cellsES cellsS
  obtain ⟨a', s', hv', _⟩ := laid_sentinel h3.tail gSyn gSynT Tryd.underlying58 rowES Tryd.underlying80 Tryd.underlying82 rfl rfl Tryd.underlying9 cellsES cellsS
  have h1 : W.cell? ⟨2, 0, none⟩ = some (.iface 80 (.pointer (some a))) := by simpa using World.var?_cell gRng hv 0
  have h2 : W.cell? ⟨1, 0, none⟩ = some (.iface 80 (.pointer (some a'))) := by simpa using World.var?_cell gSyn hv' 0
  exact ⟨cell_of_shapedOpen_int (zero := #[.int .i64 0]) hsh (of_decide_eq_true (by kernel_rfl)) (by kernel_rfl) rfl (by kernel_rfl) (by kernel_rfl) Tryd.underlying3, ⟨_, _, h2⟩, ⟨_, _, h1⟩⟩

noncomputable def doorWorld (os : Os) : World := World.doorLaid Tryd.prog 2000 os
theorem door_met (os : Os) (args : Array Value) : laidMetH Tryd.prog laid5 (((doorWorld os).forCall (fun _ _ => 0) ⟨#[], args, []⟩).memory) :=
  laidMetH_of_parts3 (fuel := 8) (laidMet_of_run' 8 (by kernel_rfl) (by kernel_rfl)) (by kernel_rfl) (by kernel_rfl)
end Go.Proofs.YtamimaoaafapbaaDoor
