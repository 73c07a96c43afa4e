import Derived.Test.YtbflijjkdndefaaArA
namespace Go.Proofs.Ytbflijjkdndefaa
open Go Go.RowKit
set_option linter.unusedVariables false
set_option linter.unusedSimpArgs false

/-- How far b shifts. -/
def distZ (sz : Nat) (b : Int) : Int := b % bitZ sz
theorem distZ_lit (b : Int) : distZ 1 b = b % 8 ∧ distZ 2 b = b % 16 ∧ distZ 4 b = b % 32 ∧ distZ 8 b = b % 64 := ⟨rfl, rfl, rfl, rfl⟩
theorem distZ_range {sz : Nat} (h : szOk sz) (b : Int) : 0 ≤ distZ sz b ∧ distZ sz b < bitZ sz ∧ bitZ sz ≤ 64 := by
  obtain ⟨h1, h2, h3, h4⟩ := distZ_lit b
  rcases h with rfl | rfl | rfl | rfl
  · rw [h1, show bitZ 1 = 8 from rfl]; omega
  · rw [h2, show bitZ 2 = 16 from rfl]; omega
  · rw [h3, show bitZ 4 = 32 from rfl]; omega
  · rw [h4, show bitZ 8 = 64 from rfl]; omega

set_option maxHeartbeats 1000000 in
theorem distance_1 (sg : Bool) (b : Int) (h0 : -9223372036854775808 ≤ b) (h1 : b ≤ 9223372036854775807) (w : World) : Calls Try.prog 17 #[tV 1 sg, .int .i64 b] w (IntIs .u64 (distZ 1 b) w) := by
  rw [tV_1]
  go_enter Try.func17, Try.ntmps17
  go_wp2_with (go_at_call 24; refine (bits_any szOk1 sg _).mono ?_; rintro e w1 ⟨rfl, hb1⟩; obtain ⟨hc, hf⟩ := bcell hb1; simp only [show bitZ 1 = 8 from rfl])
  go_ret
  refine ⟨ret_int ?_, ((Below.refl _ _).alloc (Nat.le_refl _) _).trans (hb1.mono (by simp))⟩
  clear hb1 hc hf
  obtain ⟨l1, l2, l3, l4⟩ := distZ_lit b
  simp only [w64, wu64, l1, l2, l3, l4]
  rw [Int.tmod_eq_emod_of_nonneg (Int.emod_nonneg _ (by decide))]
  clear l1 l2 l3 l4
  omega

set_option maxHeartbeats 1000000 in
theorem distance_2 (sg : Bool) (b : Int) (h0 : -9223372036854775808 ≤ b) (h1 : b ≤ 9223372036854775807) (w : World) : Calls Try.prog 17 #[tV 2 sg, .int .i64 b] w (IntIs .u64 (distZ 2 b) w) := by
  rw [tV_2]
  go_enter Try.func17, Try.ntmps17
  go_wp2_with (go_at_call 24; refine (bits_any szOk2 sg _).mono ?_; rintro e w1 ⟨rfl, hb1⟩; obtain ⟨hc, hf⟩ := bcell hb1; simp only [show bitZ 2 = 16 from rfl])
  go_ret
  refine ⟨ret_int ?_, ((Below.refl _ _).alloc (Nat.le_refl _) _).trans (hb1.mono (by simp))⟩
  clear hb1 hc hf
  obtain ⟨l1, l2, l3, l4⟩ := distZ_lit b
  simp only [w64, wu64, l1, l2, l3, l4]
  rw [Int.tmod_eq_emod_of_nonneg (Int.emod_nonneg _ (by decide))]
  clear l1 l2 l3 l4
  omega

set_option maxHeartbeats 1000000 in
theorem distance_4 (sg : Bool) (b : Int) (h0 : -9223372036854775808 ≤ b) (h1 : b ≤ 9223372036854775807) (w : World) : Calls Try.prog 17 #[tV 4 sg, .int .i64 b] w (IntIs .u64 (distZ 4 b) w) := by
  rw [tV_4]
  go_enter Try.func17, Try.ntmps17
  go_wp2_with (go_at_call 24; refine (bits_any szOk4 sg _).mono ?_; rintro e w1 ⟨rfl, hb1⟩; obtain ⟨hc, hf⟩ := bcell hb1; simp only [show bitZ 4 = 32 from rfl])
  go_ret
  refine ⟨ret_int ?_, ((Below.refl _ _).alloc (Nat.le_refl _) _).trans (hb1.mono (by simp))⟩
  clear hb1 hc hf
  obtain ⟨l1, l2, l3, l4⟩ := distZ_lit b
  simp only [w64, wu64, l1, l2, l3, l4]
  rw [Int.tmod_eq_emod_of_nonneg (Int.emod_nonneg _ (by decide))]
  clear l1 l2 l3 l4
  omega

set_option maxHeartbeats 1000000 in
theorem distance_8 (sg : Bool) (b : Int) (h0 : -9223372036854775808 ≤ b) (h1 : b ≤ 9223372036854775807) (w : World) : Calls Try.prog 17 #[tV 8 sg, .int .i64 b] w (IntIs .u64 (distZ 8 b) w) := by
  rw [tV_8]
  go_enter Try.func17, Try.ntmps17
  go_wp2_with (go_at_call 24; refine (bits_any szOk8 sg _).mono ?_; rintro e w1 ⟨rfl, hb1⟩; obtain ⟨hc, hf⟩ := bcell hb1; simp only [show bitZ 8 = 64 from rfl])
  go_ret
  refine ⟨ret_int ?_, ((Below.refl _ _).alloc (Nat.le_refl _) _).trans (hb1.mono (by simp))⟩
  clear hb1 hc hf
  obtain ⟨l1, l2, l3, l4⟩ := distZ_lit b
  simp only [w64, wu64, l1, l2, l3, l4]
  rw [Int.tmod_eq_emod_of_nonneg (Int.emod_nonneg _ (by decide))]
  clear l1 l2 l3 l4
  omega

theorem distance_any {sz : Nat} (h : szOk sz) (sg : Bool) (b : Int) (h0 : -9223372036854775808 ≤ b) (h1 : b ≤ 9223372036854775807) (w : World) : Calls Try.prog 17 #[tV sz sg, .int .i64 b] w (IntIs .u64 (distZ sz b) w) := by
  rcases h with rfl | rfl | rfl | rfl
  · exact distance_1 sg b h0 h1 w
  · exact distance_2 sg b h0 h1 w
  · exact distance_4 sg b h0 h1 w
  · exact distance_8 sg b h0 h1 w

/-- To the right: with the sign, or without. -/
def rightZ (sg : Bool) (a n : Int) : Int := if sg then a / 2 ^ n.toNat else wrap64 (a % 18446744073709551616 / 2 ^ n.toNat)

set_option maxHeartbeats 1000000 in
theorem right_t (sz : Nat) (a n : Int) (h0 : 0 ≤ n) (h1 : n < 64) (w : World) : Calls Try.prog 18 #[tV sz true, .int .i64 a, .int .u64 n] w (IntIs .i64 (rightZ true a n) w) := by
  rw [show tV sz true = .agg #[.int .i64 1, .int .i64 sz, .bool true, .bool false, .pointer none, .int .i64 0, .int .i64 0, .slice none 0 0, .pointer none] from rfl]
  have h2 : n ≤ 64 := by omega
  go_enter Try.func18, Try.ntmps18
  go_wp2
  go_ret
  refine ⟨ret_int ?_, (Below.refl _ _).alloc (Nat.le_refl _) _⟩
  first | rfl | (simp [rightZ]; done) | skip

set_option maxHeartbeats 1000000 in
theorem right_f (sz : Nat) (a n : Int) (h0 : 0 ≤ n) (h1 : n < 64) (w : World) : Calls Try.prog 18 #[tV sz false, .int .i64 a, .int .u64 n] w (IntIs .i64 (rightZ false a n) w) := by
  rw [show tV sz false = .agg #[.int .i64 1, .int .i64 sz, .bool false, .bool false, .pointer none, .int .i64 0, .int .i64 0, .slice none 0 0, .pointer none] from rfl]
  have h2 : n ≤ 64 := by omega
  go_enter Try.func18, Try.ntmps18
  go_wp2
  go_ret
  refine ⟨ret_int ?_, (Below.refl _ _).alloc (Nat.le_refl _) _⟩
  first | rfl | (simp [rightZ, wu64]; done) | skip

theorem right_any (sz : Nat) (sg : Bool) (a n : Int) (h0 : 0 ≤ n) (h1 : n < 64) (w : World) : Calls Try.prog 18 #[tV sz sg, .int .i64 a, .int .u64 n] w (IntIs .i64 (rightZ sg a n) w) := by
  cases sg
  · exact right_f sz a n h0 h1 w
  · exact right_t sz a n h0 h1 w

def bitI (b : Bool) : Int := if b then 1 else 0
theorem bool_any (b : Bool) (w : World) : Calls Try.prog 16 #[.bool b] w fun e w' => e = .returned (.int .i64 (bitI b)) ∧ w = w' := by
  cases b
  · go_enter Try.func16, Try.ntmps16
    go_wp2
    go_ret
    exact ⟨rfl, rfl⟩
  · go_enter Try.func16, Try.ntmps16
    go_wp2
    go_ret
    exact ⟨rfl, rfl⟩

theorem nan_i (a : Int) (w : World) : Calls Try.prog 28 #[.int .i64 a] w fun e w' => e = .returned (.bool false) ∧ w = w' := by
  go_enter Try.func28, Try.ntmps28
  go_wp2
  go_ret
  exact ⟨by simp, rfl⟩
theorem nan_u (a : Int) (w : World) : Calls Try.prog 29 #[.int .u64 a] w fun e w' => e = .returned (.bool false) ∧ w = w' := by
  go_enter Try.func29, Try.ntmps29
  go_wp2
  go_ret
  exact ⟨by simp, rfl⟩

def cmpZ (a b : Int) : Int := if a < b then -1 else if b < a then 1 else 0

set_option maxHeartbeats 1000000 in
theorem compare_i (a b : Int) (w : World) : Calls Try.prog 26 #[.int .i64 a, .int .i64 b] w fun e w' => e = .returned (.int .i64 (cmpZ a b)) ∧ w = w' := by
  go_enter Try.func26, Try.ntmps26
  go_wp2_with (go_at_call 28; refine (nan_i _ _).mono ?_; rintro e w1 ⟨rfl, rfl⟩)
  all_goals
    go_ret
    exact ⟨ret_int (by simp_all [cmpZ] <;> omega), rfl⟩

set_option maxHeartbeats 1000000 in
theorem compare_u (a b : Int) (w : World) : Calls Try.prog 27 #[.int .u64 a, .int .u64 b] w fun e w' => e = .returned (.int .i64 (cmpZ a b)) ∧ w = w' := by
  go_enter Try.func27, Try.ntmps27
  go_wp2_with (go_at_call 29; refine (nan_u _ _).mono ?_; rintro e w1 ⟨rfl, rfl⟩)
  all_goals
    go_ret
    exact ⟨ret_int (by simp_all [cmpZ] <;> omega), rfl⟩
end Go.Proofs.Ytbflijjkdndefaa
