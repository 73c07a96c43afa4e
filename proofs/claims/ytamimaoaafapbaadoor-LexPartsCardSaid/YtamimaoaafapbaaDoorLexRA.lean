import Derived.Test.YtamimaoaafapbaaDoorLexA
import Derived.Test.YtamimaoaafapbaaDoorLexR
namespace Go.Proofs.YtamimaoaafapbaaDoor
open Go Go.RowKit

set_option maxHeartbeats 400000 in
theorem wordy_any (c : Int) (w : World) : Calls Tryd.prog 26 #[.int .u8 c] w fun e w' => e = .returned (.bool (partB c)) ∧ w = w' := by
  go_enter Tryd.func26, Tryd.ntmps26
  go_wp2
  all_goals
    go_ret
    exact ⟨ret_bool (by rw [Bool.eq_iff_iff]; simp [partB, letB, digB]; omega), rfl⟩

theorem ret_i64 {a b : Int} (h : a = b) : Ending.returned (.int .i64 a) = .returned (.int .i64 b) := by rw [h]

set_option maxHeartbeats 1000000 in
theorem hex_yes (c : UInt8) (b : Int) (hb : b = 10 ∨ b = 16) (h : baseB b c.toNat = true) (w : World) : Calls Tryd.prog 38 #[.int .u8 c.toNat, .int .u64 b] w fun e w' => e = .returned (.int .i64 (hexV c)) ∧ w = w' := by
  have hc := c.toNat_lt
  rcases hb with rfl | rfl
  · have h1 : 48 ≤ c.toNat ∧ c.toNat ≤ 57 := by simp [baseB, digB] at h; omega
    have HV := Lib.hid (show (hexV c : Int) = c.toNat - 48 by unfold hexV; rw [if_pos (by omega)]; omega)
    rw [HV.out]
    clear h
    go_enter Tryd.func38, Tryd.ntmps38
    go_wp2
    go_ret
    exact ⟨rfl, rfl⟩
  · have h1 : (48 ≤ c.toNat ∧ c.toNat ≤ 57) ∨ (97 ≤ c.toNat ∧ c.toNat ≤ 102) ∨ (65 ≤ c.toNat ∧ c.toNat ≤ 70) := by simp [baseB, hexB, digB] at h; omega
    clear h
    rcases h1 with h1 | h1 | h1
    · have HV := Lib.hid (show (hexV c : Int) = c.toNat - 48 by unfold hexV; rw [if_pos (by omega)]; omega)
      rw [HV.out]
      go_enter Tryd.func38, Tryd.ntmps38
      go_wp2
      go_ret
      exact ⟨rfl, rfl⟩
    · have HV := Lib.hid (show (hexV c : Int) = c.toNat - 97 + 10 by unfold hexV; rw [if_neg (by omega), if_neg (by omega)]; omega)
      rw [HV.out]
      go_enter Tryd.func38, Tryd.ntmps38
      go_wp2
      go_ret
      exact ⟨rfl, rfl⟩
    · have HV := Lib.hid (show (hexV c : Int) = c.toNat - 65 + 10 by unfold hexV; rw [if_neg (by omega), if_pos (by omega)]; omega)
      rw [HV.out]
      go_enter Tryd.func38, Tryd.ntmps38
      go_wp2
      go_ret
      exact ⟨rfl, rfl⟩

set_option maxHeartbeats 1000000 in
theorem hex_no (c : UInt8) (b : Int) (hb : b = 10 ∨ b = 16) (h : baseB b c.toNat = false) (w : World) : Calls Tryd.prog 38 #[.int .u8 c.toNat, .int .u64 b] w fun e w' => e = .returned (.int .i64 (-1)) ∧ w = w' := by
  have hc := c.toNat_lt
  rcases hb with rfl | rfl
  · have h1 : c.toNat < 48 ∨ 57 < c.toNat := by simp [baseB, digB] at h; omega
    clear h
    rcases h1 with h1 | h1
    all_goals
      go_enter Tryd.func38, Tryd.ntmps38
      go_wp2
      go_ret
      exact ⟨rfl, rfl⟩
  · have h1 : c.toNat < 48 ∨ (57 < c.toNat ∧ c.toNat < 65) ∨ (70 < c.toNat ∧ c.toNat < 97) ∨ 102 < c.toNat := by simp [baseB, hexB, digB] at h; omega
    clear h
    rcases h1 with h1 | h1 | h1 | h1
    all_goals
      go_enter Tryd.func38, Tryd.ntmps38
      go_wp2
      go_ret
      exact ⟨rfl, rfl⟩
end Go.Proofs.YtamimaoaafapbaaDoor
