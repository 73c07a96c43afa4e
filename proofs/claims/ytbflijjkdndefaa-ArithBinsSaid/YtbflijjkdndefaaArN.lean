import Derived.Test.YtbflijjkdndefaaArJ
import Derived.Test.YtbflijjkdndefaaArK
namespace Go.Proofs.Ytbflijjkdndefaa
open Go Go.RowKit
set_option linter.unusedVariables false
set_option linter.unusedSimpArgs false

def powW (i : Nat) : Int := wrap64 (2 ^ i)
theorem powW_step (i : Nat) : wrap64 (powW i + powW i) = powW (i + 1) := by
  unfold powW
  rw [Int.pow_succ]
  simp only [w64]
  omega

set_option maxHeartbeats 1000000 in
theorem power_any (n : Nat) (hn : n ≤ 64) (w : World) : Calls Try.prog 21 #[.int .i64 n] w fun e w' => e = .returned (.int .i64 (powW n)) ∧ w = w' := by
  go_enter Try.func21, Try.ntmps21
  go_wp2
  go_loop [3, 4] (fun x i => ∃ k : Nat, k ≤ n ∧ i = .int .i64 k ∧ x = .int .i64 (powW k)) (fun _ i => n - (intOf i).toNat)
  case atStart => exact ⟨0, Nat.zero_le _, rfl, by rw [show powW 0 = 1 from by unfold powW; rw [w64]; rfl]⟩
  case round =>
    obtain ⟨k, hk, rfl, rfl⟩ := hrel
    have HP := Lib.hid (powW_step k)
    have HL := Lib.hid (w64_lo (2 ^ k))
    by_cases hlt : k < n
    · go_wp2
      go_round
      case rel => exact ⟨k + 1, by omega, by go_num, by rw [← HP.out]⟩
      case measure => simp [intOf]; omega
    · go_wp2
      go_ret
      obtain rfl : n = k := by omega
      exact ⟨rfl, rfl⟩

theorem half_no (x : Int) (h : ¬ x.tmod 2 < 0) : (x - x.tmod 2).tdiv 2 = x / 2 := by
  have := half x
  simp only [if_neg h] at this
  exact this
theorem half_yes (x : Int) (h : x.tmod 2 < 0) : (x - (x.tmod 2 + 2)).tdiv 2 = x / 2 := by
  have := half x
  simp only [if_pos h] at this
  exact this

set_option maxHeartbeats 2000000 in
theorem floor_any (a : Int) (n : Nat) (hn : n ≤ 64) (a0 : -9223372036854775808 ≤ a) (a1 : a ≤ 9223372036854775807) (w : World) : Calls Try.prog 22 #[.int .i64 a, .int .i64 n] w fun e w' => e = .returned (.int .i64 (a / 2 ^ n)) ∧ w = w' := by
  go_enter Try.func22, Try.ntmps22
  go_wp2
  go_loop [0, 5] (fun x i => ∃ (k : Nat) (y : Int), k ≤ n ∧ i = .int .i64 k ∧ x = .int .i64 y ∧ Hid (y = a / 2 ^ k) ∧ -9223372036854775808 ≤ y ∧ y ≤ 9223372036854775807) (fun _ i => n - (intOf i).toNat)
  case atStart => exact ⟨0, a, Nat.zero_le _, rfl, rfl, Lib.hid (by simp), a0, a1⟩
  case round =>
    obtain ⟨k, y, hk, rfl, rfl, HY, y0, y1⟩ := hrel
    have HH := Lib.hid (half_step a k)
    have hr := tmod_or y 2
    by_cases hlt : k < n
    · by_cases hneg : y.tmod 2 < 0
      · have e1 : IntKind.i64.wrap (y.tmod 2 + 2) = y.tmod 2 + 2 := by rw [wi64, w64]; omega
        have e2 : IntKind.i64.wrap (y - (y.tmod 2 + 2)) = y - (y.tmod 2 + 2) := by rw [wi64, w64]; omega
        have e3 := Lib.hid (half_yes y hneg)
        have e5 : wrap64 (y - (y.tmod 2 + 2)) = y - (y.tmod 2 + 2) := by rw [← wi64, e2]
        have HE5 := Lib.hid e5
        clear e1 e2 e5
        go_wp2
        go_round
        case rel =>
          refine ⟨k + 1, y / 2, by omega, by go_num, ?_, Lib.hid (by rw [HY.out, HH.out]), by omega, by omega⟩
          have h5 := HE5.out
          have h3 := e3.out
          first | (rw [h3]; done) | (rw [h5, h3]; done) | (simp only [h5, h3]; rw [w64]; congr 1; omega)
        case measure => simp [intOf]; omega
      · have e2 : wrap64 (y - y.tmod 2) = y - y.tmod 2 := by rw [w64]; omega
        have HE5 := Lib.hid e2
        have e3 := Lib.hid (half_no y hneg)
        clear e2
        go_wp2
        go_round
        case rel =>
          refine ⟨k + 1, y / 2, by omega, by go_num, ?_, Lib.hid (by rw [HY.out, HH.out]), by omega, by omega⟩
          have h5 := HE5.out
          have h3 := e3.out
          first | (rw [h3]; done) | (rw [h5, h3]; done) | (simp only [h5, h3]; rw [w64]; congr 1; omega)
        case measure => simp [intOf]; omega
    · go_wp2
      go_ret
      obtain rfl : n = k := by omega
      exact ⟨by rw [HY.out]; rfl, rfl⟩
end Go.Proofs.Ytbflijjkdndefaa
