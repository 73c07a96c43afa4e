import Derived.Test.YtlfpeoeopkkpgaaDoorLexX0
import Derived.Test.YtlfpeoeopkkpgaaDoorLexX1
import Derived.Test.YtlfpeoeopkkpgaaDoorLexX2
import Derived.Test.YtlfpeoeopkkpgaaDoorLexX3
import Derived.Test.YtlfpeoeopkkpgaaDoorLexX4
import Derived.Test.YtlfpeoeopkkpgaaDoorLexX5
namespace Go.Proofs.YtlfpeoeopkkpgaaDoor
open Go Go.RowKit

theorem rem6 (n : Int) : ∃ r : Nat, (wrap64 (n.tmod 6 + 6)).tmod 6 = (r : Int) ∧ r < 6 := by
  have h1 := Int.tmod_lt_of_pos n (show (0 : Int) < 6 by omega)
  have h2 := Int.lt_tmod_of_pos n (show (0 : Int) < 6 by omega)
  have h3 : wrap64 (n.tmod 6 + 6) = n.tmod 6 + 6 := by unfold wrap64; omega
  rw [h3, Int.tmod_eq_emod_of_nonneg (by omega)]
  exact ⟨((n.tmod 6 + 6) % 6).toNat, by omega, by omega⟩

theorem lexLimits_any (n : Int) (w : World) (hg : G w) :
    Calls Tryd.prog 5 #[.int .i64 n] w fun e w' => e = .returned (.bool true) ∧ Below w.heap.size w w' := by
  obtain ⟨r, hr, h6⟩ := rem6 n
  match r, h6, hr with
  | 0, _, hr => exact lim0 n hr w hg
  | 1, _, hr => exact lim1 n hr w hg
  | 2, _, hr => exact lim2 n hr w hg
  | 3, _, hr => exact lim3 n hr w hg
  | 4, _, hr => exact lim4 n hr w hg
  | 5, _, hr => exact lim5 n hr w hg
end Go.Proofs.YtlfpeoeopkkpgaaDoor
