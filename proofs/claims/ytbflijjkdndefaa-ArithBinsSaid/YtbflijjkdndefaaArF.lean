import Derived.Test.YtbflijjkdndefaaArE
namespace Go.Proofs.Ytbflijjkdndefaa
open Go Go.RowKit
set_option linter.unusedVariables false
set_option linter.unusedSimpArgs false

set_option maxHeartbeats 2000000 in
theorem fit_law (w : World) : Calls Try.prog 7 #[] w (BoolIs true w) := by
  go_enter Try.func7, Try.ntmps7
  go_wp2_with fail
  refine (type_4 _).mono ?_; rintro e w1 ⟨rfl, hb1⟩
  go_wp2_with fail
  refine (bin_add szOk1 false 200 100 _).mono ?_; rintro e w2 ⟨rfl, hb2⟩
  rw [show fitZ 1 false (200 + 100) = 44 from rfl]
  go_wp2_with fail
  refine (type_2 _).mono ?_; rintro e w3 ⟨rfl, hb3⟩
  go_wp2_with fail
  refine (Cmp_2 4 true (-1) 0 _).mono ?_; rintro e w4 ⟨rfl, hb4⟩
  rw [show bitI (cmpYes 2 (ordZ true (-1) 0)) = 1 from rfl]
  go_wp2_with fail
  refine (bool_any true _).mono ?_; rintro e w5 ⟨rfl, rfl⟩
  rw [show bitI true = 1 from rfl]
  go_wp2_with fail
  go_ret
  exact ⟨rfl, ((hb1.trans (hb2.mono hb1.size)).trans (hb3.mono (Nat.le_trans hb1.size hb2.size))).trans (hb4.mono (Nat.le_trans (Nat.le_trans hb1.size hb2.size) hb3.size))⟩
end Go.Proofs.Ytbflijjkdndefaa
