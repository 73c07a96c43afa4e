import Derived.Test.YtbflijjkdndefaaArP
namespace Go.Proofs.Ytbflijjkdndefaa
open Go Go.RowKit
set_option linter.unusedVariables false
set_option linter.unusedSimpArgs false

theorem fitZ_pow {sz : Nat} (h : szOk sz) (sg : Bool) (a : Int) (k : Nat) : fitZ sz sg (IntKind.i64.wrap (a * powW k)) = fitZ sz sg (a * 2 ^ k) := by
  rw [wi64, fitZ_w64 h]
  obtain ⟨c, hc⟩ : ∃ c, powW k = 2 ^ k + 18446744073709551616 * c := ⟨-((2 ^ k + 9223372036854775808) / 18446744073709551616), by unfold powW; rw [w64]; omega⟩
  rw [hc, Int.mul_add, show a * (18446744073709551616 * c) = 18446744073709551616 * (a * c) from by rw [← Int.mul_assoc, Int.mul_comm a, Int.mul_assoc], fitZ_wrap h]
theorem shr_fit_t {sz : Nat} (h : szOk sz) (a : Int) (k : Nat) (ha : isFit sz true a) : fitZ sz true (a / 2 ^ k) = a / 2 ^ k := by
  have e := fitZ_s h a
  rw [show fitZ sz true a = a from ha] at e
  have p3 : (2 : Int) ^ (8 * sz) = 2 * 2 ^ (8 * sz - 1) := by
    conv => lhs; rw [show 8 * sz = (8 * sz - 1) + 1 from by rcases h with rfl | rfl | rfl | rfl <;> rfl, Int.pow_succ]
    omega
  have p0 := pow2_pos (8 * sz - 1)
  have h1 := Int.emod_nonneg (a + 2 ^ (8 * sz - 1)) (show (2 ^ (8 * sz) : Int) ≠ 0 by omega)
  have h2 := Int.emod_lt_of_pos (a + 2 ^ (8 * sz - 1)) (show (0 : Int) < 2 ^ (8 * sz) by omega)
  have hk := pow2_pos k
  have a0 : -2 ^ (8 * sz - 1) ≤ a := by omega
  have a1 : a < 2 ^ (8 * sz - 1) := by omega
  clear e h1 h2
  have b0 : -2 ^ (8 * sz - 1) ≤ a / 2 ^ k := by
    apply Int.le_ediv_of_mul_le hk
    have := Int.mul_le_mul_of_nonpos_left (show (-2 ^ (8 * sz - 1) : Int) ≤ 0 by omega) (show (1 : Int) ≤ 2 ^ k by omega)
    omega
  have b1 : a / 2 ^ k < 2 ^ (8 * sz - 1) := by
    apply Int.ediv_lt_of_lt_mul hk
    have := Int.mul_le_mul_of_nonneg_left (show (1 : Int) ≤ 2 ^ k by omega) (show (0 : Int) ≤ 2 ^ (8 * sz - 1) by omega)
    omega
  rw [fitZ_s h, Int.emod_eq_of_lt (by omega) (by omega)]
  omega
theorem shr_fit_f {sz : Nat} (h : szOk sz) (a : Int) (k : Nat) (ha : isFit sz false a) : fitZ sz false (wrap64 (a % 18446744073709551616 / 2 ^ k)) = wrap64 (a % 18446744073709551616 / 2 ^ k) := by
  rw [fitZ_w64 h]
  have h1 := fit_lt h a ha
  have h0 : 0 ≤ a % 18446744073709551616 := Int.emod_nonneg _ (by decide)
  have h2 := Int.ediv_le_self (2 ^ k) h0
  exact fitZ_in h _ (Int.ediv_nonneg h0 (by have := pow2_pos k; omega)) (by omega)
theorem power_is (k : Nat) (hk : k ≤ 64) (w : World) : Calls Try.prog 21 #[.int .i64 k] w (IntIs .i64 (powW k) w) :=
  (power_any k hk w).mono fun e w' ⟨h1, h2⟩ => ⟨h1, h2 ▸ Below.refl _ _⟩
theorem floor_is (a : Int) (k : Nat) (hk : k ≤ 64) (a0 : -9223372036854775808 ≤ a) (a1 : a ≤ 9223372036854775807) (w : World) : Calls Try.prog 22 #[.int .i64 a, .int .i64 k] w (IntIs .i64 (a / 2 ^ k) w) :=
  (floor_any a k hk a0 a1 w).mono fun e w' ⟨h1, h2⟩ => ⟨h1, h2 ▸ Below.refl _ _⟩

set_option maxHeartbeats 4000000 in
theorem rbin_shl1 (sg : Bool) (a b : Int) (hb0 : -9223372036854775808 ≤ b) (hb1 : b ≤ 9223372036854775807) (w : World) : Calls Try.prog 12 #[.string ⟨#[60, 60]⟩, tV 1 sg, .int .i64 a, .int .i64 b] w (PairIs (fitZ 1 sg (a * 2 ^ (distZ 1 b).toNat)) true w) := by
  obtain ⟨k, hkk⟩ : ∃ k : Nat, b % 8 = (k : Int) := ⟨(b % 8).toNat, by omega⟩
  have hd : distZ 1 b = (k : Int) := by rw [(distZ_lit b).1, hkk]
  have hk1 : k < 8 := by omega
  have hK := Lib.hid (show wrap64 ((IntKind.u64.wrap b).tmod 8) = (k : Int) by rw [wu64, Int.tmod_eq_emod_of_nonneg (Int.emod_nonneg _ (by decide)), w64, ← hkk]; omega)
  rw [hd, show (k : Int).toNat = k from rfl, ← fitZ_pow szOk1]
  have HP := Lib.hid (power_is k (by omega))
  have HF := Lib.hid (rfit_any szOk1 sg (IntKind.i64.wrap (a * powW k)) (by rw [wi64]; exact w64_lo _) (by rw [wi64]; exact w64_hi _))
  rw [show tV 1 sg = .agg #[.int .i64 1, .int .i64 1, .bool sg, .bool false, .pointer none, .int .i64 0, .int .i64 0, .slice none 0 0, .pointer none] from rfl] at HF ⊢
  clear hkk hd
  go_enter Try.func12, Try.ntmps12
  go_wp2_with fail
  rw [hK.out]
  generalize hW : w.alloc _ = W
  have hbW : Below w.heap.size w W := by rw [← hW]; exact (Below.refl _ _).alloc (Nat.le_refl _) _
  have hsW : W.heap.size = w.heap.size + 1 := by rw [← hW]; simp
  have HK : Hid (T9 W w.heap.size 1 sg) := Lib.hid (by rw [← hW]; exact t9_alloc w 1 sg _)
  have HBW := Lib.hid hbW
  have HSW := Lib.hid hsW
  obtain ⟨k0_0, k0_1, k0_2, k0_3, k0_4, k0_5, k0_6, k0_7, k0_8⟩ := HK.out
  rw [show ((1 : Nat) : Int) = 1 from rfl] at k0_1
  clear hW hbW hsW
  go_region_held3 (fun w' => w'.cell? ⟨w.heap.size, 0, none⟩ = some (.int .i64 1) ∧ w'.cell? ⟨w.heap.size, 1, none⟩ = some (.int .i64 1) ∧ w'.cell? ⟨w.heap.size, 2, none⟩ = some (.bool sg) ∧ w'.cell? ⟨w.heap.size, 3, none⟩ = some (.bool false) ∧ w'.cell? ⟨w.heap.size, 4, none⟩ = some (.pointer none) ∧ w'.cell? ⟨w.heap.size, 5, none⟩ = some (.int .i64 0) ∧ w'.cell? ⟨w.heap.size, 6, none⟩ = some (.int .i64 0) ∧ w'.cell? ⟨w.heap.size, 7, none⟩ = some (.slice none 0 0) ∧ w'.cell? ⟨w.heap.size, 8, none⟩ = some (.pointer none)) (go_keep)
    (first
      | (go_at_call 10
         (refine (HF.out _).mono ?_)
         rintro e w_2 ⟨rfl, hb2⟩
         have HB2 : Hid (Below W.heap.size W w_2) := Lib.hid (HB1.out.trans (hb2.mono HB1.out.size))
         obtain ⟨k2_0, k2_1, k2_2, k2_3, k2_4, k2_5, k2_6, k2_7, k2_8⟩ := HK.out.below HB2.out (by have := HSW.out; omega); rw [show ((1 : Nat) : Int) = 1 from rfl] at k2_1
         clear hb2 k1_0 k1_1 k1_2 k1_3 k1_4 k1_5 k1_6 k1_7 k1_8)
      | (go_at_call 21
         (refine (HP.out _).mono ?_)
         rintro e w_1 ⟨rfl, hb1⟩
         have HB1 : Hid (Below W.heap.size W w_1) := Lib.hid ((Below.refl W.heap.size W).drew.trans hb1)
         obtain ⟨k1_0, k1_1, k1_2, k1_3, k1_4, k1_5, k1_6, k1_7, k1_8⟩ := HK.out.below HB1.out (by have := HSW.out; omega); rw [show ((1 : Nat) : Int) = 1 from rfl] at k1_1
         clear hb1 k0_0 k0_1 k0_2 k0_3 k0_4 k0_5 k0_6 k0_7 k0_8))
  have hbw := HBW.out.trans (HB2.out.mono (by have := HSW.out; omega))
  go_wp2
  go_ret2
  exact ⟨rfl, hbw⟩

set_option maxHeartbeats 4000000 in
theorem rbin_shr1t (a b : Int) (ha0 : -9223372036854775808 ≤ a) (ha1 : a ≤ 9223372036854775807) (hb0 : -9223372036854775808 ≤ b) (hb1 : b ≤ 9223372036854775807) (ha : isFit 1 true a) (w : World) : Calls Try.prog 12 #[.string ⟨#[62, 62]⟩, tV 1 true, .int .i64 a, .int .i64 b] w (PairIs (fitZ 1 true (rightZ true a (distZ 1 b))) true w) := by
  obtain ⟨k, hkk⟩ : ∃ k : Nat, b % 8 = (k : Int) := ⟨(b % 8).toNat, by omega⟩
  have hd : distZ 1 b = (k : Int) := by rw [(distZ_lit b).1, hkk]
  have hk1 : k < 8 := by omega
  have hK := Lib.hid (show wrap64 ((IntKind.u64.wrap b).tmod 8) = (k : Int) by rw [wu64, Int.tmod_eq_emod_of_nonneg (Int.emod_nonneg _ (by decide)), w64, ← hkk]; omega)
  rw [hd, show rightZ true a (k : Int) = a / 2 ^ k from rfl, shr_fit_t szOk1 a k ha]
  have HF := Lib.hid (floor_is a k (by omega) ha0 ha1)
  clear ha hkk hd
  rw [show tV 1 true = .agg #[.int .i64 1, .int .i64 1, .bool true, .bool false, .pointer none, .int .i64 0, .int .i64 0, .slice none 0 0, .pointer none] from rfl]
  go_enter Try.func12, Try.ntmps12
  go_wp2_with fail
  rw [hK.out]
  refine (HF.out _).mono ?_
  rintro e w1 ⟨rfl, hc1⟩
  obtain ⟨hc, hf⟩ := bcell hc1
  go_wp2_with fail
  go_ret2
  exact ⟨rfl, ((Below.refl _ _).alloc (Nat.le_refl _) _).trans (hc1.mono (by simp))⟩

set_option maxHeartbeats 4000000 in
theorem rbin_shr1f (a b : Int) (hb0 : -9223372036854775808 ≤ b) (hb1 : b ≤ 9223372036854775807) (ha : isFit 1 false a) (w : World) : Calls Try.prog 12 #[.string ⟨#[62, 62]⟩, tV 1 false, .int .i64 a, .int .i64 b] w (PairIs (fitZ 1 false (rightZ false a (distZ 1 b))) true w) := by
  obtain ⟨k, hkk⟩ : ∃ k : Nat, b % 8 = (k : Int) := ⟨(b % 8).toNat, by omega⟩
  have hd : distZ 1 b = (k : Int) := by rw [(distZ_lit b).1, hkk]
  have hk1 : k < 8 := by omega
  have hK := Lib.hid (show wrap64 ((IntKind.u64.wrap b).tmod 8) = (k : Int) by rw [wu64, Int.tmod_eq_emod_of_nonneg (Int.emod_nonneg _ (by decide)), w64, ← hkk]; omega)
  rw [hd, show rightZ false a (k : Int) = wrap64 (a % 18446744073709551616 / 2 ^ k) from rfl, shr_fit_f szOk1 a k ha]
  clear ha hkk hd
  rw [show tV 1 false = .agg #[.int .i64 1, .int .i64 1, .bool false, .bool false, .pointer none, .int .i64 0, .int .i64 0, .slice none 0 0, .pointer none] from rfl]
  go_enter Try.func12, Try.ntmps12
  go_wp2_with fail
  rw [hK.out, wu64 a]
  have hA : 0 ≤ a % 18446744073709551616 := Int.emod_nonneg _ (by decide)
  have hA1 : a % 18446744073709551616 < 18446744073709551616 := Int.emod_lt_of_pos _ (by decide)
  generalize hAA : a % 18446744073709551616 = A at hA hA1 ⊢
  have HAA := Lib.hid hAA
  clear hAA
  go_loop [13, 14] (fun x i => ∃ (j : Nat) (y : Int), j ≤ k ∧ i = .int .i64 j ∧ x = .int .u64 y ∧ Hid (y = A / 2 ^ j) ∧ 0 ≤ y ∧ y < 18446744073709551616) (fun _ i => k - (intOf i).toNat)
  case atStart => exact ⟨0, A, Nat.zero_le _, rfl, rfl, Lib.hid (by simp), hA, hA1⟩
  case round =>
    obtain ⟨j, y, hj, rfl, rfl, HY, y0, y1⟩ := hrel
    have HH := Lib.hid (half_step A j)
    by_cases hlt : j < k
    · go_wp2
      go_round
      case rel => exact ⟨j + 1, y / 2, by omega, by go_num, rfl, Lib.hid (by rw [HY.out, HH.out]), by omega, by omega⟩
      case measure => simp [intOf]; omega
    · obtain rfl : k = j := by omega
      go_wp2
      go_ret2
      exact ⟨ret_pair (by rw [HY.out, HAA.out]) rfl, (Below.refl _ _).alloc (Nat.le_refl _) _⟩

set_option maxHeartbeats 4000000 in
theorem rbin_shl2 (sg : Bool) (a b : Int) (hb0 : -9223372036854775808 ≤ b) (hb1 : b ≤ 9223372036854775807) (w : World) : Calls Try.prog 12 #[.string ⟨#[60, 60]⟩, tV 2 sg, .int .i64 a, .int .i64 b] w (PairIs (fitZ 2 sg (a * 2 ^ (distZ 2 b).toNat)) true w) := by
  obtain ⟨k, hkk⟩ : ∃ k : Nat, b % 16 = (k : Int) := ⟨(b % 16).toNat, by omega⟩
  have hd : distZ 2 b = (k : Int) := by rw [(distZ_lit b).2.1, hkk]
  have hk1 : k < 16 := by omega
  have hK := Lib.hid (show wrap64 ((IntKind.u64.wrap b).tmod 16) = (k : Int) by rw [wu64, Int.tmod_eq_emod_of_nonneg (Int.emod_nonneg _ (by decide)), w64, ← hkk]; omega)
  rw [hd, show (k : Int).toNat = k from rfl, ← fitZ_pow szOk2]
  have HP := Lib.hid (power_is k (by omega))
  have HF := Lib.hid (rfit_any szOk2 sg (IntKind.i64.wrap (a * powW k)) (by rw [wi64]; exact w64_lo _) (by rw [wi64]; exact w64_hi _))
  rw [show tV 2 sg = .agg #[.int .i64 1, .int .i64 2, .bool sg, .bool false, .pointer none, .int .i64 0, .int .i64 0, .slice none 0 0, .pointer none] from rfl] at HF ⊢
  clear hkk hd
  go_enter Try.func12, Try.ntmps12
  go_wp2_with fail
  rw [hK.out]
  generalize hW : w.alloc _ = W
  have hbW : Below w.heap.size w W := by rw [← hW]; exact (Below.refl _ _).alloc (Nat.le_refl _) _
  have hsW : W.heap.size = w.heap.size + 1 := by rw [← hW]; simp
  have HK : Hid (T9 W w.heap.size 2 sg) := Lib.hid (by rw [← hW]; exact t9_alloc w 2 sg _)
  have HBW := Lib.hid hbW
  have HSW := Lib.hid hsW
  obtain ⟨k0_0, k0_1, k0_2, k0_3, k0_4, k0_5, k0_6, k0_7, k0_8⟩ := HK.out
  rw [show ((2 : Nat) : Int) = 2 from rfl] at k0_1
  clear hW hbW hsW
  go_region_held3 (fun w' => w'.cell? ⟨w.heap.size, 0, none⟩ = some (.int .i64 1) ∧ w'.cell? ⟨w.heap.size, 1, none⟩ = some (.int .i64 2) ∧ w'.cell? ⟨w.heap.size, 2, none⟩ = some (.bool sg) ∧ w'.cell? ⟨w.heap.size, 3, none⟩ = some (.bool false) ∧ w'.cell? ⟨w.heap.size, 4, none⟩ = some (.pointer none) ∧ w'.cell? ⟨w.heap.size, 5, none⟩ = some (.int .i64 0) ∧ w'.cell? ⟨w.heap.size, 6, none⟩ = some (.int .i64 0) ∧ w'.cell? ⟨w.heap.size, 7, none⟩ = some (.slice none 0 0) ∧ w'.cell? ⟨w.heap.size, 8, none⟩ = some (.pointer none)) (go_keep)
    (first
      | (go_at_call 10
         (refine (HF.out _).mono ?_)
         rintro e w_2 ⟨rfl, hb2⟩
         have HB2 : Hid (Below W.heap.size W w_2) := Lib.hid (HB1.out.trans (hb2.mono HB1.out.size))
         obtain ⟨k2_0, k2_1, k2_2, k2_3, k2_4, k2_5, k2_6, k2_7, k2_8⟩ := HK.out.below HB2.out (by have := HSW.out; omega); rw [show ((2 : Nat) : Int) = 2 from rfl] at k2_1
         clear hb2 k1_0 k1_1 k1_2 k1_3 k1_4 k1_5 k1_6 k1_7 k1_8)
      | (go_at_call 21
         (refine (HP.out _).mono ?_)
         rintro e w_1 ⟨rfl, hb1⟩
         have HB1 : Hid (Below W.heap.size W w_1) := Lib.hid ((Below.refl W.heap.size W).drew.trans hb1)
         obtain ⟨k1_0, k1_1, k1_2, k1_3, k1_4, k1_5, k1_6, k1_7, k1_8⟩ := HK.out.below HB1.out (by have := HSW.out; omega); rw [show ((2 : Nat) : Int) = 2 from rfl] at k1_1
         clear hb1 k0_0 k0_1 k0_2 k0_3 k0_4 k0_5 k0_6 k0_7 k0_8))
  have hbw := HBW.out.trans (HB2.out.mono (by have := HSW.out; omega))
  go_wp2
  go_ret2
  exact ⟨rfl, hbw⟩

set_option maxHeartbeats 4000000 in
theorem rbin_shr2t (a b : Int) (ha0 : -9223372036854775808 ≤ a) (ha1 : a ≤ 9223372036854775807) (hb0 : -9223372036854775808 ≤ b) (hb1 : b ≤ 9223372036854775807) (ha : isFit 2 true a) (w : World) : Calls Try.prog 12 #[.string ⟨#[62, 62]⟩, tV 2 true, .int .i64 a, .int .i64 b] w (PairIs (fitZ 2 true (rightZ true a (distZ 2 b))) true w) := by
  obtain ⟨k, hkk⟩ : ∃ k : Nat, b % 16 = (k : Int) := ⟨(b % 16).toNat, by omega⟩
  have hd : distZ 2 b = (k : Int) := by rw [(distZ_lit b).2.1, hkk]
  have hk1 : k < 16 := by omega
  have hK := Lib.hid (show wrap64 ((IntKind.u64.wrap b).tmod 16) = (k : Int) by rw [wu64, Int.tmod_eq_emod_of_nonneg (Int.emod_nonneg _ (by decide)), w64, ← hkk]; omega)
  rw [hd, show rightZ true a (k : Int) = a / 2 ^ k from rfl, shr_fit_t szOk2 a k ha]
  have HF := Lib.hid (floor_is a k (by omega) ha0 ha1)
  clear ha hkk hd
  rw [show tV 2 true = .agg #[.int .i64 1, .int .i64 2, .bool true, .bool false, .pointer none, .int .i64 0, .int .i64 0, .slice none 0 0, .pointer none] from rfl]
  go_enter Try.func12, Try.ntmps12
  go_wp2_with fail
  rw [hK.out]
  refine (HF.out _).mono ?_
  rintro e w1 ⟨rfl, hc1⟩
  obtain ⟨hc, hf⟩ := bcell hc1
  go_wp2_with fail
  go_ret2
  exact ⟨rfl, ((Below.refl _ _).alloc (Nat.le_refl _) _).trans (hc1.mono (by simp))⟩

set_option maxHeartbeats 4000000 in
theorem rbin_shr2f (a b : Int) (hb0 : -9223372036854775808 ≤ b) (hb1 : b ≤ 9223372036854775807) (ha : isFit 2 false a) (w : World) : Calls Try.prog 12 #[.string ⟨#[62, 62]⟩, tV 2 false, .int .i64 a, .int .i64 b] w (PairIs (fitZ 2 false (rightZ false a (distZ 2 b))) true w) := by
  obtain ⟨k, hkk⟩ : ∃ k : Nat, b % 16 = (k : Int) := ⟨(b % 16).toNat, by omega⟩
  have hd : distZ 2 b = (k : Int) := by rw [(distZ_lit b).2.1, hkk]
  have hk1 : k < 16 := by omega
  have hK := Lib.hid (show wrap64 ((IntKind.u64.wrap b).tmod 16) = (k : Int) by rw [wu64, Int.tmod_eq_emod_of_nonneg (Int.emod_nonneg _ (by decide)), w64, ← hkk]; omega)
  rw [hd, show rightZ false a (k : Int) = wrap64 (a % 18446744073709551616 / 2 ^ k) from rfl, shr_fit_f szOk2 a k ha]
  clear ha hkk hd
  rw [show tV 2 false = .agg #[.int .i64 1, .int .i64 2, .bool false, .bool false, .pointer none, .int .i64 0, .int .i64 0, .slice none 0 0, .pointer none] from rfl]
  go_enter Try.func12, Try.ntmps12
  go_wp2_with fail
  rw [hK.out, wu64 a]
  have hA : 0 ≤ a % 18446744073709551616 := Int.emod_nonneg _ (by decide)
  have hA1 : a % 18446744073709551616 < 18446744073709551616 := Int.emod_lt_of_pos _ (by decide)
  generalize hAA : a % 18446744073709551616 = A at hA hA1 ⊢
  have HAA := Lib.hid hAA
  clear hAA
  go_loop [13, 14] (fun x i => ∃ (j : Nat) (y : Int), j ≤ k ∧ i = .int .i64 j ∧ x = .int .u64 y ∧ Hid (y = A / 2 ^ j) ∧ 0 ≤ y ∧ y < 18446744073709551616) (fun _ i => k - (intOf i).toNat)
  case atStart => exact ⟨0, A, Nat.zero_le _, rfl, rfl, Lib.hid (by simp), hA, hA1⟩
  case round =>
    obtain ⟨j, y, hj, rfl, rfl, HY, y0, y1⟩ := hrel
    have HH := Lib.hid (half_step A j)
    by_cases hlt : j < k
    · go_wp2
      go_round
      case rel => exact ⟨j + 1, y / 2, by omega, by go_num, rfl, Lib.hid (by rw [HY.out, HH.out]), by omega, by omega⟩
      case measure => simp [intOf]; omega
    · obtain rfl : k = j := by omega
      go_wp2
      go_ret2
      exact ⟨ret_pair (by rw [HY.out, HAA.out]) rfl, (Below.refl _ _).alloc (Nat.le_refl _) _⟩

set_option maxHeartbeats 4000000 in
theorem rbin_shl4 (sg : Bool) (a b : Int) (hb0 : -9223372036854775808 ≤ b) (hb1 : b ≤ 9223372036854775807) (w : World) : Calls Try.prog 12 #[.string ⟨#[60, 60]⟩, tV 4 sg, .int .i64 a, .int .i64 b] w (PairIs (fitZ 4 sg (a * 2 ^ (distZ 4 b).toNat)) true w) := by
  obtain ⟨k, hkk⟩ : ∃ k : Nat, b % 32 = (k : Int) := ⟨(b % 32).toNat, by omega⟩
  have hd : distZ 4 b = (k : Int) := by rw [(distZ_lit b).2.2.1, hkk]
  have hk1 : k < 32 := by omega
  have hK := Lib.hid (show wrap64 ((IntKind.u64.wrap b).tmod 32) = (k : Int) by rw [wu64, Int.tmod_eq_emod_of_nonneg (Int.emod_nonneg _ (by decide)), w64, ← hkk]; omega)
  rw [hd, show (k : Int).toNat = k from rfl, ← fitZ_pow szOk4]
  have HP := Lib.hid (power_is k (by omega))
  have HF := Lib.hid (rfit_any szOk4 sg (IntKind.i64.wrap (a * powW k)) (by rw [wi64]; exact w64_lo _) (by rw [wi64]; exact w64_hi _))
  rw [show tV 4 sg = .agg #[.int .i64 1, .int .i64 4, .bool sg, .bool false, .pointer none, .int .i64 0, .int .i64 0, .slice none 0 0, .pointer none] from rfl] at HF ⊢
  clear hkk hd
  go_enter Try.func12, Try.ntmps12
  go_wp2_with fail
  rw [hK.out]
  generalize hW : w.alloc _ = W
  have hbW : Below w.heap.size w W := by rw [← hW]; exact (Below.refl _ _).alloc (Nat.le_refl _) _
  have hsW : W.heap.size = w.heap.size + 1 := by rw [← hW]; simp
  have HK : Hid (T9 W w.heap.size 4 sg) := Lib.hid (by rw [← hW]; exact t9_alloc w 4 sg _)
  have HBW := Lib.hid hbW
  have HSW := Lib.hid hsW
  obtain ⟨k0_0, k0_1, k0_2, k0_3, k0_4, k0_5, k0_6, k0_7, k0_8⟩ := HK.out
  rw [show ((4 : Nat) : Int) = 4 from rfl] at k0_1
  clear hW hbW hsW
  go_region_held3 (fun w' => w'.cell? ⟨w.heap.size, 0, none⟩ = some (.int .i64 1) ∧ w'.cell? ⟨w.heap.size, 1, none⟩ = some (.int .i64 4) ∧ w'.cell? ⟨w.heap.size, 2, none⟩ = some (.bool sg) ∧ w'.cell? ⟨w.heap.size, 3, none⟩ = some (.bool false) ∧ w'.cell? ⟨w.heap.size, 4, none⟩ = some (.pointer none) ∧ w'.cell? ⟨w.heap.size, 5, none⟩ = some (.int .i64 0) ∧ w'.cell? ⟨w.heap.size, 6, none⟩ = some (.int .i64 0) ∧ w'.cell? ⟨w.heap.size, 7, none⟩ = some (.slice none 0 0) ∧ w'.cell? ⟨w.heap.size, 8, none⟩ = some (.pointer none)) (go_keep)
    (first
      | (go_at_call 10
         (refine (HF.out _).mono ?_)
         rintro e w_2 ⟨rfl, hb2⟩
         have HB2 : Hid (Below W.heap.size W w_2) := Lib.hid (HB1.out.trans (hb2.mono HB1.out.size))
         obtain ⟨k2_0, k2_1, k2_2, k2_3, k2_4, k2_5, k2_6, k2_7, k2_8⟩ := HK.out.below HB2.out (by have := HSW.out; omega); rw [show ((4 : Nat) : Int) = 4 from rfl] at k2_1
         clear hb2 k1_0 k1_1 k1_2 k1_3 k1_4 k1_5 k1_6 k1_7 k1_8)
      | (go_at_call 21
         (refine (HP.out _).mono ?_)
         rintro e w_1 ⟨rfl, hb1⟩
         have HB1 : Hid (Below W.heap.size W w_1) := Lib.hid ((Below.refl W.heap.size W).drew.trans hb1)
         obtain ⟨k1_0, k1_1, k1_2, k1_3, k1_4, k1_5, k1_6, k1_7, k1_8⟩ := HK.out.below HB1.out (by have := HSW.out; omega); rw [show ((4 : Nat) : Int) = 4 from rfl] at k1_1
         clear hb1 k0_0 k0_1 k0_2 k0_3 k0_4 k0_5 k0_6 k0_7 k0_8))
  have hbw := HBW.out.trans (HB2.out.mono (by have := HSW.out; omega))
  go_wp2
  go_ret2
  exact ⟨rfl, hbw⟩

set_option maxHeartbeats 4000000 in
theorem rbin_shr4t (a b : Int) (ha0 : -9223372036854775808 ≤ a) (ha1 : a ≤ 9223372036854775807) (hb0 : -9223372036854775808 ≤ b) (hb1 : b ≤ 9223372036854775807) (ha : isFit 4 true a) (w : World) : Calls Try.prog 12 #[.string ⟨#[62, 62]⟩, tV 4 true, .int .i64 a, .int .i64 b] w (PairIs (fitZ 4 true (rightZ true a (distZ 4 b))) true w) := by
  obtain ⟨k, hkk⟩ : ∃ k : Nat, b % 32 = (k : Int) := ⟨(b % 32).toNat, by omega⟩
  have hd : distZ 4 b = (k : Int) := by rw [(distZ_lit b).2.2.1, hkk]
  have hk1 : k < 32 := by omega
  have hK := Lib.hid (show wrap64 ((IntKind.u64.wrap b).tmod 32) = (k : Int) by rw [wu64, Int.tmod_eq_emod_of_nonneg (Int.emod_nonneg _ (by decide)), w64, ← hkk]; omega)
  rw [hd, show rightZ true a (k : Int) = a / 2 ^ k from rfl, shr_fit_t szOk4 a k ha]
  have HF := Lib.hid (floor_is a k (by omega) ha0 ha1)
  clear ha hkk hd
  rw [show tV 4 true = .agg #[.int .i64 1, .int .i64 4, .bool true, .bool false, .pointer none, .int .i64 0, .int .i64 0, .slice none 0 0, .pointer none] from rfl]
  go_enter Try.func12, Try.ntmps12
  go_wp2_with fail
  rw [hK.out]
  refine (HF.out _).mono ?_
  rintro e w1 ⟨rfl, hc1⟩
  obtain ⟨hc, hf⟩ := bcell hc1
  go_wp2_with fail
  go_ret2
  exact ⟨rfl, ((Below.refl _ _).alloc (Nat.le_refl _) _).trans (hc1.mono (by simp))⟩

set_option maxHeartbeats 4000000 in
theorem rbin_shr4f (a b : Int) (hb0 : -9223372036854775808 ≤ b) (hb1 : b ≤ 9223372036854775807) (ha : isFit 4 false a) (w : World) : Calls Try.prog 12 #[.string ⟨#[62, 62]⟩, tV 4 false, .int .i64 a, .int .i64 b] w (PairIs (fitZ 4 false (rightZ false a (distZ 4 b))) true w) := by
  obtain ⟨k, hkk⟩ : ∃ k : Nat, b % 32 = (k : Int) := ⟨(b % 32).toNat, by omega⟩
  have hd : distZ 4 b = (k : Int) := by rw [(distZ_lit b).2.2.1, hkk]
  have hk1 : k < 32 := by omega
  have hK := Lib.hid (show wrap64 ((IntKind.u64.wrap b).tmod 32) = (k : Int) by rw [wu64, Int.tmod_eq_emod_of_nonneg (Int.emod_nonneg _ (by decide)), w64, ← hkk]; omega)
  rw [hd, show rightZ false a (k : Int) = wrap64 (a % 18446744073709551616 / 2 ^ k) from rfl, shr_fit_f szOk4 a k ha]
  clear ha hkk hd
  rw [show tV 4 false = .agg #[.int .i64 1, .int .i64 4, .bool false, .bool false, .pointer none, .int .i64 0, .int .i64 0, .slice none 0 0, .pointer none] from rfl]
  go_enter Try.func12, Try.ntmps12
  go_wp2_with fail
  rw [hK.out, wu64 a]
  have hA : 0 ≤ a % 18446744073709551616 := Int.emod_nonneg _ (by decide)
  have hA1 : a % 18446744073709551616 < 18446744073709551616 := Int.emod_lt_of_pos _ (by decide)
  generalize hAA : a % 18446744073709551616 = A at hA hA1 ⊢
  have HAA := Lib.hid hAA
  clear hAA
  go_loop [13, 14] (fun x i => ∃ (j : Nat) (y : Int), j ≤ k ∧ i = .int .i64 j ∧ x = .int .u64 y ∧ Hid (y = A / 2 ^ j) ∧ 0 ≤ y ∧ y < 18446744073709551616) (fun _ i => k - (intOf i).toNat)
  case atStart => exact ⟨0, A, Nat.zero_le _, rfl, rfl, Lib.hid (by simp), hA, hA1⟩
  case round =>
    obtain ⟨j, y, hj, rfl, rfl, HY, y0, y1⟩ := hrel
    have HH := Lib.hid (half_step A j)
    by_cases hlt : j < k
    · go_wp2
      go_round
      case rel => exact ⟨j + 1, y / 2, by omega, by go_num, rfl, Lib.hid (by rw [HY.out, HH.out]), by omega, by omega⟩
      case measure => simp [intOf]; omega
    · obtain rfl : k = j := by omega
      go_wp2
      go_ret2
      exact ⟨ret_pair (by rw [HY.out, HAA.out]) rfl, (Below.refl _ _).alloc (Nat.le_refl _) _⟩

set_option maxHeartbeats 4000000 in
theorem rbin_shl8 (sg : Bool) (a b : Int) (hb0 : -9223372036854775808 ≤ b) (hb1 : b ≤ 9223372036854775807) (w : World) : Calls Try.prog 12 #[.string ⟨#[60, 60]⟩, tV 8 sg, .int .i64 a, .int .i64 b] w (PairIs (fitZ 8 sg (a * 2 ^ (distZ 8 b).toNat)) true w) := by
  obtain ⟨k, hkk⟩ : ∃ k : Nat, b % 64 = (k : Int) := ⟨(b % 64).toNat, by omega⟩
  have hd : distZ 8 b = (k : Int) := by rw [(distZ_lit b).2.2.2, hkk]
  have hk1 : k < 64 := by omega
  have hK := Lib.hid (show wrap64 ((IntKind.u64.wrap b).tmod 64) = (k : Int) by rw [wu64, Int.tmod_eq_emod_of_nonneg (Int.emod_nonneg _ (by decide)), w64, ← hkk]; omega)
  rw [hd, show (k : Int).toNat = k from rfl, ← fitZ_pow szOk8]
  have HP := Lib.hid (power_is k (by omega))
  have HF := Lib.hid (rfit_any szOk8 sg (IntKind.i64.wrap (a * powW k)) (by rw [wi64]; exact w64_lo _) (by rw [wi64]; exact w64_hi _))
  rw [show tV 8 sg = .agg #[.int .i64 1, .int .i64 8, .bool sg, .bool false, .pointer none, .int .i64 0, .int .i64 0, .slice none 0 0, .pointer none] from rfl] at HF ⊢
  clear hkk hd
  go_enter Try.func12, Try.ntmps12
  go_wp2_with fail
  rw [hK.out]
  generalize hW : w.alloc _ = W
  have hbW : Below w.heap.size w W := by rw [← hW]; exact (Below.refl _ _).alloc (Nat.le_refl _) _
  have hsW : W.heap.size = w.heap.size + 1 := by rw [← hW]; simp
  have HK : Hid (T9 W w.heap.size 8 sg) := Lib.hid (by rw [← hW]; exact t9_alloc w 8 sg _)
  have HBW := Lib.hid hbW
  have HSW := Lib.hid hsW
  obtain ⟨k0_0, k0_1, k0_2, k0_3, k0_4, k0_5, k0_6, k0_7, k0_8⟩ := HK.out
  rw [show ((8 : Nat) : Int) = 8 from rfl] at k0_1
  clear hW hbW hsW
  go_region_held3 (fun w' => w'.cell? ⟨w.heap.size, 0, none⟩ = some (.int .i64 1) ∧ w'.cell? ⟨w.heap.size, 1, none⟩ = some (.int .i64 8) ∧ w'.cell? ⟨w.heap.size, 2, none⟩ = some (.bool sg) ∧ w'.cell? ⟨w.heap.size, 3, none⟩ = some (.bool false) ∧ w'.cell? ⟨w.heap.size, 4, none⟩ = some (.pointer none) ∧ w'.cell? ⟨w.heap.size, 5, none⟩ = some (.int .i64 0) ∧ w'.cell? ⟨w.heap.size, 6, none⟩ = some (.int .i64 0) ∧ w'.cell? ⟨w.heap.size, 7, none⟩ = some (.slice none 0 0) ∧ w'.cell? ⟨w.heap.size, 8, none⟩ = some (.pointer none)) (go_keep)
    (first
      | (go_at_call 10
         (refine (HF.out _).mono ?_)
         rintro e w_2 ⟨rfl, hb2⟩
         have HB2 : Hid (Below W.heap.size W w_2) := Lib.hid (HB1.out.trans (hb2.mono HB1.out.size))
         obtain ⟨k2_0, k2_1, k2_2, k2_3, k2_4, k2_5, k2_6, k2_7, k2_8⟩ := HK.out.below HB2.out (by have := HSW.out; omega); rw [show ((8 : Nat) : Int) = 8 from rfl] at k2_1
         clear hb2 k1_0 k1_1 k1_2 k1_3 k1_4 k1_5 k1_6 k1_7 k1_8)
      | (go_at_call 21
         (refine (HP.out _).mono ?_)
         rintro e w_1 ⟨rfl, hb1⟩
         have HB1 : Hid (Below W.heap.size W w_1) := Lib.hid ((Below.refl W.heap.size W).drew.trans hb1)
         obtain ⟨k1_0, k1_1, k1_2, k1_3, k1_4, k1_5, k1_6, k1_7, k1_8⟩ := HK.out.below HB1.out (by have := HSW.out; omega); rw [show ((8 : Nat) : Int) = 8 from rfl] at k1_1
         clear hb1 k0_0 k0_1 k0_2 k0_3 k0_4 k0_5 k0_6 k0_7 k0_8))
  have hbw := HBW.out.trans (HB2.out.mono (by have := HSW.out; omega))
  go_wp2
  go_ret2
  exact ⟨rfl, hbw⟩

set_option maxHeartbeats 4000000 in
theorem rbin_shr8t (a b : Int) (ha0 : -9223372036854775808 ≤ a) (ha1 : a ≤ 9223372036854775807) (hb0 : -9223372036854775808 ≤ b) (hb1 : b ≤ 9223372036854775807) (ha : isFit 8 true a) (w : World) : Calls Try.prog 12 #[.string ⟨#[62, 62]⟩, tV 8 true, .int .i64 a, .int .i64 b] w (PairIs (fitZ 8 true (rightZ true a (distZ 8 b))) true w) := by
  obtain ⟨k, hkk⟩ : ∃ k : Nat, b % 64 = (k : Int) := ⟨(b % 64).toNat, by omega⟩
  have hd : distZ 8 b = (k : Int) := by rw [(distZ_lit b).2.2.2, hkk]
  have hk1 : k < 64 := by omega
  have hK := Lib.hid (show wrap64 ((IntKind.u64.wrap b).tmod 64) = (k : Int) by rw [wu64, Int.tmod_eq_emod_of_nonneg (Int.emod_nonneg _ (by decide)), w64, ← hkk]; omega)
  rw [hd, show rightZ true a (k : Int) = a / 2 ^ k from rfl, shr_fit_t szOk8 a k ha]
  have HF := Lib.hid (floor_is a k (by omega) ha0 ha1)
  clear ha hkk hd
  rw [show tV 8 true = .agg #[.int .i64 1, .int .i64 8, .bool true, .bool false, .pointer none, .int .i64 0, .int .i64 0, .slice none 0 0, .pointer none] from rfl]
  go_enter Try.func12, Try.ntmps12
  go_wp2_with fail
  rw [hK.out]
  refine (HF.out _).mono ?_
  rintro e w1 ⟨rfl, hc1⟩
  obtain ⟨hc, hf⟩ := bcell hc1
  go_wp2_with fail
  go_ret2
  exact ⟨rfl, ((Below.refl _ _).alloc (Nat.le_refl _) _).trans (hc1.mono (by simp))⟩

set_option maxHeartbeats 4000000 in
theorem rbin_shr8f (a b : Int) (hb0 : -9223372036854775808 ≤ b) (hb1 : b ≤ 9223372036854775807) (ha : isFit 8 false a) (w : World) : Calls Try.prog 12 #[.string ⟨#[62, 62]⟩, tV 8 false, .int .i64 a, .int .i64 b] w (PairIs (fitZ 8 false (rightZ false a (distZ 8 b))) true w) := by
  obtain ⟨k, hkk⟩ : ∃ k : Nat, b % 64 = (k : Int) := ⟨(b % 64).toNat, by omega⟩
  have hd : distZ 8 b = (k : Int) := by rw [(distZ_lit b).2.2.2, hkk]
  have hk1 : k < 64 := by omega
  have hK := Lib.hid (show wrap64 ((IntKind.u64.wrap b).tmod 64) = (k : Int) by rw [wu64, Int.tmod_eq_emod_of_nonneg (Int.emod_nonneg _ (by decide)), w64, ← hkk]; omega)
  rw [hd, show rightZ false a (k : Int) = wrap64 (a % 18446744073709551616 / 2 ^ k) from rfl, shr_fit_f szOk8 a k ha]
  clear ha hkk hd
  rw [show tV 8 false = .agg #[.int .i64 1, .int .i64 8, .bool false, .bool false, .pointer none, .int .i64 0, .int .i64 0, .slice none 0 0, .pointer none] from rfl]
  go_enter Try.func12, Try.ntmps12
  go_wp2_with fail
  rw [hK.out, wu64 a]
  have hA : 0 ≤ a % 18446744073709551616 := Int.emod_nonneg _ (by decide)
  have hA1 : a % 18446744073709551616 < 18446744073709551616 := Int.emod_lt_of_pos _ (by decide)
  generalize hAA : a % 18446744073709551616 = A at hA hA1 ⊢
  have HAA := Lib.hid hAA
  clear hAA
  go_loop [13, 14] (fun x i => ∃ (j : Nat) (y : Int), j ≤ k ∧ i = .int .i64 j ∧ x = .int .u64 y ∧ Hid (y = A / 2 ^ j) ∧ 0 ≤ y ∧ y < 18446744073709551616) (fun _ i => k - (intOf i).toNat)
  case atStart => exact ⟨0, A, Nat.zero_le _, rfl, rfl, Lib.hid (by simp), hA, hA1⟩
  case round =>
    obtain ⟨j, y, hj, rfl, rfl, HY, y0, y1⟩ := hrel
    have HH := Lib.hid (half_step A j)
    by_cases hlt : j < k
    · go_wp2
      go_round
      case rel => exact ⟨j + 1, y / 2, by omega, by go_num, rfl, Lib.hid (by rw [HY.out, HH.out]), by omega, by omega⟩
      case measure => simp [intOf]; omega
    · obtain rfl : k = j := by omega
      go_wp2
      go_ret2
      exact ⟨ret_pair (by rw [HY.out, HAA.out]) rfl, (Below.refl _ _).alloc (Nat.le_refl _) _⟩
end Go.Proofs.Ytbflijjkdndefaa
