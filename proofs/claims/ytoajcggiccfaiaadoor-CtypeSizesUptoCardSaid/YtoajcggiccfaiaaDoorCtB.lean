import Derived.Test.YtoajcggiccfaiaaDoorCtA
namespace Go.Proofs.YtoajcggiccfaiaaDoor
open Go Go.RowKit

set_option maxHeartbeats 1000000 in
theorem own_any (t : Ty) (el : Option Addr) (w : World) :
    Calls Tryd.prog 37 #[tyV t el] w fun e w' => e = .returned (tyV t el) ∧ Below w.heap.size w w' := by
  unfold tyV
  go_enter Tryd.func37, Tryd.ntmps37
  go_wp2_with (go_at_call 43; refine (clone_any _).mono ?_; rintro e w' ⟨rfl, rfl⟩)
  refine wp_loop_rounds 1 ?_; rw [rounds_succ]
  go_wp2
  refine bodyPost_ret (v := tyV t el) ?_ rfl ⟨rfl, ?_⟩
  · simp [results, Tryd.results37, go_sem, tyV]
  · ((repeat (first | (with_reducible exact Below.refl _ _) | (with_reducible apply Below.setCell) | (with_reducible apply Below.alloc))) <;> first | omega | (simp <;> omega))
end Go.Proofs.YtoajcggiccfaiaaDoor
