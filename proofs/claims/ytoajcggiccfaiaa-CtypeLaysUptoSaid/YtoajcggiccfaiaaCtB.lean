import Derived.Test.YtoajcggiccfaiaaCtA
namespace Go.Proofs.Ytoajcggiccfaiaa
open Go Go.RowKit

set_option maxHeartbeats 1000000 in
theorem own_any (t : Ty) (el : Option Addr) (w : World) :
    Calls Try.prog 36 #[tyV t el] w fun e w' => e = .returned (tyV t el) ∧ Below w.heap.size w w' := by
  unfold tyV
  go_enter Try.func36, Try.ntmps36
  go_wp2_with (go_at_call 41; refine (clone_any _).mono ?_; rintro e w' ⟨rfl, rfl⟩)
  refine wp_loop_rounds 1 ?_; rw [rounds_succ]
  go_wp2
  refine bodyPost_ret (v := tyV t el) ?_ rfl ⟨rfl, ?_⟩
  · simp [results, Try.results36, go_sem, tyV]
  · ((repeat (first | (with_reducible exact Below.refl _ _) | (with_reducible apply Below.setCell) | (with_reducible apply Below.alloc))) <;> first | omega | (simp <;> omega))
end Go.Proofs.Ytoajcggiccfaiaa
