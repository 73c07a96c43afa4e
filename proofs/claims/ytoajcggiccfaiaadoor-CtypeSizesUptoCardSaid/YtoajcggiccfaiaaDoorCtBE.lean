import Derived.Test.YtoajcggiccfaiaaDoorCtBD
namespace Go.Proofs.YtoajcggiccfaiaaDoor
open Go Go.RowKit
set_option linter.unusedVariables false
set_option linter.unusedSimpArgs false

theorem upM_step (y a : Int) (ha : 1 ≤ a) (h : ¬ y % a = 0) : upM (y + 1) a = upM y a := by
  have h1 := Int.emod_nonneg y (show a ≠ 0 by omega)
  have h2 := Int.emod_lt_of_pos y (show 0 < a by omega)
  have h3 : (y + 1) % a = (y % a + 1) % a := (Int.emod_add_emod y a 1).symm
  unfold upM
  rw [if_neg h]
  by_cases e : y % a + 1 = a
  · have h4 : (y + 1) % a = 0 := by rw [h3, e, Int.emod_self]
    rw [if_pos h4]; omega
  · have h4 : (y + 1) % a = y % a + 1 := by rw [h3]; exact Int.emod_eq_of_lt (by omega) (by omega)
    rw [if_neg (by rw [h4]; omega), h4]; omega
theorem upM_ge (y a : Int) (ha : 1 ≤ a) : y ≤ upM y a ∧ upM y a < y + a := by
  have h1 := Int.emod_nonneg y (show a ≠ 0 by omega)
  have h2 := Int.emod_lt_of_pos y (show 0 < a by omega)
  unfold upM; split <;> omega
theorem upM_at (y a : Int) (h : y % a = 0) : upM y a = y := by unfold upM; rw [if_pos h]
theorem upM_lt (y a : Int) (ha : 1 ≤ a) (h : ¬ y % a = 0) : y < upM y a := by
  have h1 := Int.emod_nonneg y (show a ≠ 0 by omega)
  have h2 := Int.emod_lt_of_pos y (show 0 < a by omega)
  unfold upM; rw [if_neg h]; omega

set_option maxHeartbeats 2000000 in
theorem next_any (n a : Int) (h0 : 0 ≤ n) (h1 : n ≤ 4611686018427387904) (h2 : 1 ≤ a) (h3 : a ≤ 4611686018427387904) (w : World) :
    Calls Tryd.prog 28 #[.int .i64 n, .int .i64 a] w fun e w' => e = .returned (.int .i64 (upM n a)) ∧ w = w' := by
  have g1 := (upM_ge n a h2).1
  have g2 := (upM_ge n a h2).2
  obtain ⟨U, HU⟩ : ∃ U, Hid (upM n a = U) := ⟨_, Lib.hid rfl⟩
  rw [HU.out] at g1 g2
  rw [HU.out]
  have ha0 : ¬ a = 0 := by omega
  have hab : (a == 0) = false := by simpa using ha0
  clear ha0
  go_enter Tryd.func28, Tryd.ntmps28
  go_wp2
  go_loop [0] (fun x => ∃ y : Int, x = .int .i64 y ∧ n ≤ y ∧ y ≤ U ∧ Hid (upM y a = U)) (fun x => (U - intOf x).toNat)
  case atStart => exact ⟨n, rfl, by omega, g1, HU⟩
  case round =>
    obtain ⟨y, rfl, hy0, hy1, HY⟩ := hrel
    have hm : y.tmod a = y % a := Int.tmod_eq_emod_of_nonneg (by omega)
    by_cases hz : y % a = 0
    · have e1 : (y % a == 0) = true := by simpa using hz
      have e2 : (y % a != 0) = false := by simp [hz]
      have HE := Lib.hid (upM_at y a hz)
      have HM := Lib.hid hm
      have HZ := Lib.hid hz
      clear hz hm
      go_wp2
      all_goals
        first
        | (exfalso; have h1 := HZ.out; have h2 := HM.out; simp_all; done)
        | (go_ret
           exact ⟨by rw [← HY.out, HE.out]; rfl, rfl⟩)
    · have e1 : (y % a == 0) = false := by simpa using hz
      have e2 : (y % a != 0) = true := by simp [hz]
      have hlt := upM_lt y a h2 hz
      rw [HY.out] at hlt
      have HS := Lib.hid (upM_step y a h2 hz)
      have HM := Lib.hid hm
      have HZ := Lib.hid hz
      clear hz hm
      go_wp2
      all_goals
        first
        | (exfalso; have h1 := HZ.out; have h2 := HM.out; simp_all; done)
        | (go_round
           case rel => exact ⟨y + 1, rfl, by omega, by omega, Lib.hid (by rw [HS.out, HY.out])⟩
           case measure => simp [intOf]; omega)
end Go.Proofs.YtoajcggiccfaiaaDoor
