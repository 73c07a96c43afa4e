import Derived.Test.YtbflijjkdndefaaArI
namespace Go.Proofs.Ytbflijjkdndefaa
open Go Go.RowKit
set_option linter.unusedVariables false
set_option linter.unusedSimpArgs false

theorem pow2_pos (j : Nat) : (0 : Int) < 2 ^ j := Int.pow_pos (by decide)
theorem mask_pow (n : Int) (j : Nat) (hj : j ≤ 62) : bits .and .i64 n (((2 ^ j - 1 : Nat)) : Int) = n % 2 ^ j := by
  have hp : 2 ^ j ≤ 2 ^ 62 := Nat.pow_le_pow_right (by decide) hj
  have hp0 : 0 < 2 ^ j := Nat.pow_pos (by decide)
  have e : (BitVec.ofInt 64 (((2 ^ j - 1 : Nat)) : Int)).toNat = 2 ^ j - 1 := by
    rw [BitVec.ofInt_natCast, BitVec.toNat_ofNat]; omega
  have h1 : (BitVec.ofInt 64 n &&& BitVec.ofInt 64 (((2 ^ j - 1 : Nat)) : Int)).toNat = (n % 2 ^ 64).toNat % 2 ^ j := by
    rw [BitVec.toNat_and, e, Nat.and_two_pow_sub_one_eq_mod, BitVec.toNat_ofInt]; rfl
  have h2 : bits .and .i64 n (((2 ^ j - 1 : Nat)) : Int) = IntKind.i64.wrap ((BitVec.ofInt 64 n &&& BitVec.ofInt 64 (((2 ^ j - 1 : Nat)) : Int)).toNat : Int) := rfl
  have h3 : ((n % 2 ^ 64).toNat : Int) = n % 2 ^ 64 := Int.toNat_of_nonneg (Int.emod_nonneg _ (by decide))
  have h4 : (n % 2 ^ 64) % 2 ^ j = n % 2 ^ j := Int.emod_emod_of_dvd n ⟨2 ^ (64 - j), by rw [← Int.pow_add]; congr 1; omega⟩
  rw [h2, h1, Int.natCast_emod, h3, Int.natCast_pow]
  rw [show ((2 : Nat) : Int) = 2 from rfl, h4, wi64, w64]
  have h5 := Int.emod_nonneg n (show (2 ^ j : Int) ≠ 0 by have := pow2_pos j; omega)
  have h6 := Int.emod_lt_of_pos n (pow2_pos j)
  have h7 : (2 ^ j : Int) ≤ 4611686018427387904 := by
    have : ((2 ^ j : Nat) : Int) ≤ ((2 ^ 62 : Nat) : Int) := Int.ofNat_le.2 hp
    rw [Int.natCast_pow] at this
    exact this
  generalize n % 2 ^ j = y at *
  generalize (2 ^ j : Int) = m at *
  omega

theorem fitZ_s {sz : Nat} (h : szOk sz) (n : Int) : fitZ sz true n = (n + 2 ^ (8 * sz - 1)) % 2 ^ (8 * sz) - 2 ^ (8 * sz - 1) := by
  obtain ⟨h1, h2, h3, h4, h5, h6, h7, h8⟩ := fitZ_lit n
  rcases h with rfl | rfl | rfl | rfl
  · rw [h1]; rfl
  · rw [h3]; rfl
  · rw [h5]; rfl
  · rw [h7]; rfl
/-- What the unsigned fit leaves, as a number of 64 bits. -/
theorem fitZ_f {sz : Nat} (h : szOk sz) (n : Int) : fitZ sz false n % 18446744073709551616 = n % 2 ^ (8 * sz) := by
  obtain ⟨h1, h2, h3, h4, h5, h6, h7, h8⟩ := fitZ_lit n
  rcases h with rfl | rfl | rfl | rfl
  · rw [h2, show (2 : Int) ^ (8 * 1) = 256 from rfl]; omega
  · rw [h4, show (2 : Int) ^ (8 * 2) = 65536 from rfl]; omega
  · rw [h6, show (2 : Int) ^ (8 * 4) = 4294967296 from rfl]; omega
  · rw [h8, show (2 : Int) ^ (8 * 8) = 18446744073709551616 from rfl]; omega
/-- A number of so many bits is fitted already. -/
theorem fitZ_in {sz : Nat} (h : szOk sz) (n : Int) (h0 : 0 ≤ n) (h1 : n < 2 ^ (8 * sz)) : fitZ sz false n = wrap64 n := by
  obtain ⟨l1, l2, l3, l4, l5, l6, l7, l8⟩ := fitZ_lit n
  rw [w64]
  rcases h with rfl | rfl | rfl | rfl
  · rw [show (2 : Int) ^ (8 * 1) = 256 from rfl] at h1; rw [l2]; omega
  · rw [show (2 : Int) ^ (8 * 2) = 65536 from rfl] at h1; rw [l4]; omega
  · rw [show (2 : Int) ^ (8 * 4) = 4294967296 from rfl] at h1; rw [l6]; omega
  · rw [l8]

theorem pow2_le {i j : Nat} (h : i ≤ j) : (2 : Int) ^ i ≤ 2 ^ j := by
  have := Nat.pow_le_pow_right (n := 2) (by decide) h
  have h2 : ((2 ^ i : Nat) : Int) ≤ ((2 ^ j : Nat) : Int) := Int.ofNat_le.2 this
  rw [Int.natCast_pow, Int.natCast_pow] at h2
  exact h2

theorem back_s {sz : Nat} (h : szOk sz) (x : Int) (k : Nat) (hk : k < 8 * sz) :
    fitZ sz true (fitZ sz true (x * 2 ^ k) / 2 ^ k) = wrap64 (x * 2 ^ (64 - (8 * sz - k))) / 2 ^ (64 - (8 * sz - k)) := by
  have h64 : 8 * sz ≤ 64 := by rcases h with rfl | rfl | rfl | rfl <;> omega
  obtain ⟨j, hj⟩ : ∃ j, 8 * sz = k + (j + 1) := ⟨8 * sz - k - 1, by omega⟩
  have e1 : fitZ sz true (x * 2 ^ k) / 2 ^ k = (x + 2 ^ j) % 2 ^ (j + 1) - 2 ^ j := by
    rw [fitZ_s h, show 8 * sz - 1 = k + j from by omega, hj, Int.pow_add, Int.pow_add]
    exact shl_shr_s x k j
  have e2 : wrap64 (x * 2 ^ (64 - (8 * sz - k))) / 2 ^ (64 - (8 * sz - k)) = (x + 2 ^ j) % 2 ^ (j + 1) - 2 ^ j := by
    obtain ⟨s, hs⟩ : ∃ s, 64 - (8 * sz - k) = s := ⟨_, rfl⟩
    have h9 : (9223372036854775808 : Int) = 2 ^ s * 2 ^ j := by rw [← Int.pow_add, show s + j = 63 from by omega]; rfl
    have h10 : (18446744073709551616 : Int) = 2 ^ s * 2 ^ (j + 1) := by rw [← Int.pow_add, show s + (j + 1) = 64 from by omega]; rfl
    rw [hs, w64, h9, h10]
    exact shl_shr_s x s j
  rw [e1, e2, fitZ_s h]
  have p1 := pow2_pos j
  have p2 := pow2_le (show j ≤ 8 * sz - 1 by omega)
  have p3 : (2 : Int) ^ (8 * sz) = 2 * 2 ^ (8 * sz - 1) := by
    conv => lhs; rw [show 8 * sz = (8 * sz - 1) + 1 from by omega, Int.pow_succ]
    omega
  have p4 : (2 : Int) ^ (j + 1) = 2 * 2 ^ j := by rw [Int.pow_succ]; omega
  have h1 := Int.emod_nonneg (x + 2 ^ j) (show (2 ^ (j + 1) : Int) ≠ 0 by omega)
  have h2 := Int.emod_lt_of_pos (x + 2 ^ j) (show (0 : Int) < 2 ^ (j + 1) by omega)
  rw [Int.emod_eq_of_lt (by omega) (by omega)]
  omega

theorem back_u {sz : Nat} (h : szOk sz) (x : Int) (k : Nat) (hk : k < 8 * sz) :
    fitZ sz false (wrap64 (fitZ sz false (x * 2 ^ k) % 18446744073709551616 / 2 ^ k)) = wrap64 (IntKind.u64.wrap (IntKind.u64.wrap x * 2 ^ (64 - (8 * sz - k))) / 2 ^ (64 - (8 * sz - k))) := by
  have h64 : 8 * sz ≤ 64 := by rcases h with rfl | rfl | rfl | rfl <;> omega
  obtain ⟨j, hj⟩ : ∃ j, 8 * sz = k + j := ⟨8 * sz - k, by omega⟩
  have e1 : fitZ sz false (x * 2 ^ k) % 18446744073709551616 / 2 ^ k = x % 2 ^ j := by
    rw [fitZ_f h, hj, Int.pow_add]
    exact shl_shr_u x k j
  have e2 : IntKind.u64.wrap (IntKind.u64.wrap x * 2 ^ (64 - (8 * sz - k))) / 2 ^ (64 - (8 * sz - k)) = x % 2 ^ j := by
    obtain ⟨s, hs⟩ : ∃ s, 64 - (8 * sz - k) = s := ⟨_, rfl⟩
    have h10 : (18446744073709551616 : Int) = 2 ^ s * 2 ^ j := by rw [← Int.pow_add, show s + j = 64 from by omega]; rfl
    rw [hs, wu64, wu64]
    have := shl_shr_u (x % 18446744073709551616) s j
    rw [← h10] at this
    rw [this]
    exact Int.emod_emod_of_dvd x ⟨2 ^ s, by rw [h10, Int.mul_comm]⟩
  rw [e1, e2, fitZ_w64 h]
  have p1 := pow2_pos j
  refine fitZ_in h _ (Int.emod_nonneg _ (by omega)) ?_
  have h2 := Int.emod_lt_of_pos x p1
  have p2 := pow2_le (show j ≤ 8 * sz by omega)
  omega

theorem shiftsW_1t (how n by_ : Int) (n0 : -9223372036854775808 ≤ n) (n1 : n ≤ 9223372036854775807) (b0 : -9223372036854775808 ≤ by_) (b1 : by_ ≤ 9223372036854775807)
    (CT : ∀ w, Calls Try.prog 8 #[.int .i64 how] w (TypeIs 1 true w)) (w : World) :
    Calls Try.prog 6 #[.int .i64 how, .int .i64 n, .int .i64 by_] w (BoolIs true w) := by
  have h : szOk 1 := szOk1
  have hk : bits .and .i64 by_ 7 = by_ % 8 := mask_pow by_ 3 (by decide)
  have hd := (distZ_lit by_).1
  obtain ⟨k, hkk⟩ : ∃ k : Nat, by_ % 8 = (k : Int) := ⟨(by_ % 8).toNat, by omega⟩
  have hk1 : k < 8 := by omega
  rw [hkk] at hk hd
  have hd2 : distZ 1 (k : Int) = k := by rw [(distZ_lit k).1]; omega
  obtain ⟨x0, x1⟩ := fitZ_range h true n
  have CX := fun w => fit_any h true n n0 n1 w
  generalize fitZ 1 true n = x at CX x0 x1
  have CA := fun w => bin_shl h true x by_ x0 x1 b0 b1 w
  have CB := fun w => bin_shl h true x k x0 x1 (by omega) (by omega) w
  rw [hd] at CA
  rw [hd2] at CB
  obtain ⟨A0, A1⟩ := fitZ_range h true (x * 2 ^ (k : Int).toNat)
  have CC := fun w => bin_shr h true (fitZ 1 true (x * 2 ^ (k : Int).toNat)) k A0 A1 (by omega) (by omega) w
  rw [hd2, show rightZ true (fitZ 1 true (x * 2 ^ (k : Int).toNat)) k = fitZ 1 true (x * 2 ^ (k : Int).toNat) / 2 ^ (k : Int).toNat from rfl,
    show (k : Int).toNat = k from rfl, back_s h x k hk1, show 64 - (8 * 1 - k) = (64 - (8 - (k : Int))).toNat from by omega] at CC
  exact shifts_1t how n by_ x k _ hk (by omega) (by omega) CT CX CA CB CC w

theorem shiftsW_1f (how n by_ : Int) (n0 : -9223372036854775808 ≤ n) (n1 : n ≤ 9223372036854775807) (b0 : -9223372036854775808 ≤ by_) (b1 : by_ ≤ 9223372036854775807)
    (CT : ∀ w, Calls Try.prog 8 #[.int .i64 how] w (TypeIs 1 false w)) (w : World) :
    Calls Try.prog 6 #[.int .i64 how, .int .i64 n, .int .i64 by_] w (BoolIs true w) := by
  have h : szOk 1 := szOk1
  have hk : bits .and .i64 by_ 7 = by_ % 8 := mask_pow by_ 3 (by decide)
  have hd := (distZ_lit by_).1
  obtain ⟨k, hkk⟩ : ∃ k : Nat, by_ % 8 = (k : Int) := ⟨(by_ % 8).toNat, by omega⟩
  have hk1 : k < 8 := by omega
  rw [hkk] at hk hd
  have hd2 : distZ 1 (k : Int) = k := by rw [(distZ_lit k).1]; omega
  obtain ⟨x0, x1⟩ := fitZ_range h false n
  have CX := fun w => fit_any h false n n0 n1 w
  generalize fitZ 1 false n = x at CX x0 x1
  have CA := fun w => bin_shl h false x by_ x0 x1 b0 b1 w
  have CB := fun w => bin_shl h false x k x0 x1 (by omega) (by omega) w
  rw [hd] at CA
  rw [hd2] at CB
  obtain ⟨A0, A1⟩ := fitZ_range h false (x * 2 ^ (k : Int).toNat)
  have CC := fun w => bin_shr h false (fitZ 1 false (x * 2 ^ (k : Int).toNat)) k A0 A1 (by omega) (by omega) w
  rw [hd2, show rightZ false (fitZ 1 false (x * 2 ^ (k : Int).toNat)) k = wrap64 (fitZ 1 false (x * 2 ^ (k : Int).toNat) % 18446744073709551616 / 2 ^ (k : Int).toNat) from rfl,
    show (k : Int).toNat = k from rfl, back_u h x k hk1, show 64 - (8 * 1 - k) = (64 - (8 - (k : Int))).toNat from by omega] at CC
  exact shifts_1f how n by_ x k _ hk (by omega) (by omega) CT CX CA CB CC w

theorem shiftsW_2t (how n by_ : Int) (n0 : -9223372036854775808 ≤ n) (n1 : n ≤ 9223372036854775807) (b0 : -9223372036854775808 ≤ by_) (b1 : by_ ≤ 9223372036854775807)
    (CT : ∀ w, Calls Try.prog 8 #[.int .i64 how] w (TypeIs 2 true w)) (w : World) :
    Calls Try.prog 6 #[.int .i64 how, .int .i64 n, .int .i64 by_] w (BoolIs true w) := by
  have h : szOk 2 := szOk2
  have hk : bits .and .i64 by_ 15 = by_ % 16 := mask_pow by_ 4 (by decide)
  have hd := (distZ_lit by_).2.1
  obtain ⟨k, hkk⟩ : ∃ k : Nat, by_ % 16 = (k : Int) := ⟨(by_ % 16).toNat, by omega⟩
  have hk1 : k < 16 := by omega
  rw [hkk] at hk hd
  have hd2 : distZ 2 (k : Int) = k := by rw [(distZ_lit k).2.1]; omega
  obtain ⟨x0, x1⟩ := fitZ_range h true n
  have CX := fun w => fit_any h true n n0 n1 w
  generalize fitZ 2 true n = x at CX x0 x1
  have CA := fun w => bin_shl h true x by_ x0 x1 b0 b1 w
  have CB := fun w => bin_shl h true x k x0 x1 (by omega) (by omega) w
  rw [hd] at CA
  rw [hd2] at CB
  obtain ⟨A0, A1⟩ := fitZ_range h true (x * 2 ^ (k : Int).toNat)
  have CC := fun w => bin_shr h true (fitZ 2 true (x * 2 ^ (k : Int).toNat)) k A0 A1 (by omega) (by omega) w
  rw [hd2, show rightZ true (fitZ 2 true (x * 2 ^ (k : Int).toNat)) k = fitZ 2 true (x * 2 ^ (k : Int).toNat) / 2 ^ (k : Int).toNat from rfl,
    show (k : Int).toNat = k from rfl, back_s h x k hk1, show 64 - (8 * 2 - k) = (64 - (16 - (k : Int))).toNat from by omega] at CC
  exact shifts_2t how n by_ x k _ hk (by omega) (by omega) CT CX CA CB CC w

theorem shiftsW_2f (how n by_ : Int) (n0 : -9223372036854775808 ≤ n) (n1 : n ≤ 9223372036854775807) (b0 : -9223372036854775808 ≤ by_) (b1 : by_ ≤ 9223372036854775807)
    (CT : ∀ w, Calls Try.prog 8 #[.int .i64 how] w (TypeIs 2 false w)) (w : World) :
    Calls Try.prog 6 #[.int .i64 how, .int .i64 n, .int .i64 by_] w (BoolIs true w) := by
  have h : szOk 2 := szOk2
  have hk : bits .and .i64 by_ 15 = by_ % 16 := mask_pow by_ 4 (by decide)
  have hd := (distZ_lit by_).2.1
  obtain ⟨k, hkk⟩ : ∃ k : Nat, by_ % 16 = (k : Int) := ⟨(by_ % 16).toNat, by omega⟩
  have hk1 : k < 16 := by omega
  rw [hkk] at hk hd
  have hd2 : distZ 2 (k : Int) = k := by rw [(distZ_lit k).2.1]; omega
  obtain ⟨x0, x1⟩ := fitZ_range h false n
  have CX := fun w => fit_any h false n n0 n1 w
  generalize fitZ 2 false n = x at CX x0 x1
  have CA := fun w => bin_shl h false x by_ x0 x1 b0 b1 w
  have CB := fun w => bin_shl h false x k x0 x1 (by omega) (by omega) w
  rw [hd] at CA
  rw [hd2] at CB
  obtain ⟨A0, A1⟩ := fitZ_range h false (x * 2 ^ (k : Int).toNat)
  have CC := fun w => bin_shr h false (fitZ 2 false (x * 2 ^ (k : Int).toNat)) k A0 A1 (by omega) (by omega) w
  rw [hd2, show rightZ false (fitZ 2 false (x * 2 ^ (k : Int).toNat)) k = wrap64 (fitZ 2 false (x * 2 ^ (k : Int).toNat) % 18446744073709551616 / 2 ^ (k : Int).toNat) from rfl,
    show (k : Int).toNat = k from rfl, back_u h x k hk1, show 64 - (8 * 2 - k) = (64 - (16 - (k : Int))).toNat from by omega] at CC
  exact shifts_2f how n by_ x k _ hk (by omega) (by omega) CT CX CA CB CC w

theorem shiftsW_4t (how n by_ : Int) (n0 : -9223372036854775808 ≤ n) (n1 : n ≤ 9223372036854775807) (b0 : -9223372036854775808 ≤ by_) (b1 : by_ ≤ 9223372036854775807)
    (CT : ∀ w, Calls Try.prog 8 #[.int .i64 how] w (TypeIs 4 true w)) (w : World) :
    Calls Try.prog 6 #[.int .i64 how, .int .i64 n, .int .i64 by_] w (BoolIs true w) := by
  have h : szOk 4 := szOk4
  have hk : bits .and .i64 by_ 31 = by_ % 32 := mask_pow by_ 5 (by decide)
  have hd := (distZ_lit by_).2.2.1
  obtain ⟨k, hkk⟩ : ∃ k : Nat, by_ % 32 = (k : Int) := ⟨(by_ % 32).toNat, by omega⟩
  have hk1 : k < 32 := by omega
  rw [hkk] at hk hd
  have hd2 : distZ 4 (k : Int) = k := by rw [(distZ_lit k).2.2.1]; omega
  obtain ⟨x0, x1⟩ := fitZ_range h true n
  have CX := fun w => fit_any h true n n0 n1 w
  generalize fitZ 4 true n = x at CX x0 x1
  have CA := fun w => bin_shl h true x by_ x0 x1 b0 b1 w
  have CB := fun w => bin_shl h true x k x0 x1 (by omega) (by omega) w
  rw [hd] at CA
  rw [hd2] at CB
  obtain ⟨A0, A1⟩ := fitZ_range h true (x * 2 ^ (k : Int).toNat)
  have CC := fun w => bin_shr h true (fitZ 4 true (x * 2 ^ (k : Int).toNat)) k A0 A1 (by omega) (by omega) w
  rw [hd2, show rightZ true (fitZ 4 true (x * 2 ^ (k : Int).toNat)) k = fitZ 4 true (x * 2 ^ (k : Int).toNat) / 2 ^ (k : Int).toNat from rfl,
    show (k : Int).toNat = k from rfl, back_s h x k hk1, show 64 - (8 * 4 - k) = (64 - (32 - (k : Int))).toNat from by omega] at CC
  exact shifts_4t how n by_ x k _ hk (by omega) (by omega) CT CX CA CB CC w

theorem shiftsW_4f (how n by_ : Int) (n0 : -9223372036854775808 ≤ n) (n1 : n ≤ 9223372036854775807) (b0 : -9223372036854775808 ≤ by_) (b1 : by_ ≤ 9223372036854775807)
    (CT : ∀ w, Calls Try.prog 8 #[.int .i64 how] w (TypeIs 4 false w)) (w : World) :
    Calls Try.prog 6 #[.int .i64 how, .int .i64 n, .int .i64 by_] w (BoolIs true w) := by
  have h : szOk 4 := szOk4
  have hk : bits .and .i64 by_ 31 = by_ % 32 := mask_pow by_ 5 (by decide)
  have hd := (distZ_lit by_).2.2.1
  obtain ⟨k, hkk⟩ : ∃ k : Nat, by_ % 32 = (k : Int) := ⟨(by_ % 32).toNat, by omega⟩
  have hk1 : k < 32 := by omega
  rw [hkk] at hk hd
  have hd2 : distZ 4 (k : Int) = k := by rw [(distZ_lit k).2.2.1]; omega
  obtain ⟨x0, x1⟩ := fitZ_range h false n
  have CX := fun w => fit_any h false n n0 n1 w
  generalize fitZ 4 false n = x at CX x0 x1
  have CA := fun w => bin_shl h false x by_ x0 x1 b0 b1 w
  have CB := fun w => bin_shl h false x k x0 x1 (by omega) (by omega) w
  rw [hd] at CA
  rw [hd2] at CB
  obtain ⟨A0, A1⟩ := fitZ_range h false (x * 2 ^ (k : Int).toNat)
  have CC := fun w => bin_shr h false (fitZ 4 false (x * 2 ^ (k : Int).toNat)) k A0 A1 (by omega) (by omega) w
  rw [hd2, show rightZ false (fitZ 4 false (x * 2 ^ (k : Int).toNat)) k = wrap64 (fitZ 4 false (x * 2 ^ (k : Int).toNat) % 18446744073709551616 / 2 ^ (k : Int).toNat) from rfl,
    show (k : Int).toNat = k from rfl, back_u h x k hk1, show 64 - (8 * 4 - k) = (64 - (32 - (k : Int))).toNat from by omega] at CC
  exact shifts_4f how n by_ x k _ hk (by omega) (by omega) CT CX CA CB CC w

theorem shiftsW_8t (how n by_ : Int) (n0 : -9223372036854775808 ≤ n) (n1 : n ≤ 9223372036854775807) (b0 : -9223372036854775808 ≤ by_) (b1 : by_ ≤ 9223372036854775807)
    (CT : ∀ w, Calls Try.prog 8 #[.int .i64 how] w (TypeIs 8 true w)) (w : World) :
    Calls Try.prog 6 #[.int .i64 how, .int .i64 n, .int .i64 by_] w (BoolIs true w) := by
  have h : szOk 8 := szOk8
  have hk : bits .and .i64 by_ 63 = by_ % 64 := mask_pow by_ 6 (by decide)
  have hd := (distZ_lit by_).2.2.2
  obtain ⟨k, hkk⟩ : ∃ k : Nat, by_ % 64 = (k : Int) := ⟨(by_ % 64).toNat, by omega⟩
  have hk1 : k < 64 := by omega
  rw [hkk] at hk hd
  have hd2 : distZ 8 (k : Int) = k := by rw [(distZ_lit k).2.2.2]; omega
  obtain ⟨x0, x1⟩ := fitZ_range h true n
  have CX := fun w => fit_any h true n n0 n1 w
  generalize fitZ 8 true n = x at CX x0 x1
  have CA := fun w => bin_shl h true x by_ x0 x1 b0 b1 w
  have CB := fun w => bin_shl h true x k x0 x1 (by omega) (by omega) w
  rw [hd] at CA
  rw [hd2] at CB
  obtain ⟨A0, A1⟩ := fitZ_range h true (x * 2 ^ (k : Int).toNat)
  have CC := fun w => bin_shr h true (fitZ 8 true (x * 2 ^ (k : Int).toNat)) k A0 A1 (by omega) (by omega) w
  rw [hd2, show rightZ true (fitZ 8 true (x * 2 ^ (k : Int).toNat)) k = fitZ 8 true (x * 2 ^ (k : Int).toNat) / 2 ^ (k : Int).toNat from rfl,
    show (k : Int).toNat = k from rfl, back_s h x k hk1, show 64 - (8 * 8 - k) = (64 - (64 - (k : Int))).toNat from by omega] at CC
  exact shifts_8t how n by_ x k _ hk (by omega) (by omega) CT CX CA CB CC w

theorem shiftsW_8f (how n by_ : Int) (n0 : -9223372036854775808 ≤ n) (n1 : n ≤ 9223372036854775807) (b0 : -9223372036854775808 ≤ by_) (b1 : by_ ≤ 9223372036854775807)
    (CT : ∀ w, Calls Try.prog 8 #[.int .i64 how] w (TypeIs 8 false w)) (w : World) :
    Calls Try.prog 6 #[.int .i64 how, .int .i64 n, .int .i64 by_] w (BoolIs true w) := by
  have h : szOk 8 := szOk8
  have hk : bits .and .i64 by_ 63 = by_ % 64 := mask_pow by_ 6 (by decide)
  have hd := (distZ_lit by_).2.2.2
  obtain ⟨k, hkk⟩ : ∃ k : Nat, by_ % 64 = (k : Int) := ⟨(by_ % 64).toNat, by omega⟩
  have hk1 : k < 64 := by omega
  rw [hkk] at hk hd
  have hd2 : distZ 8 (k : Int) = k := by rw [(distZ_lit k).2.2.2]; omega
  obtain ⟨x0, x1⟩ := fitZ_range h false n
  have CX := fun w => fit_any h false n n0 n1 w
  generalize fitZ 8 false n = x at CX x0 x1
  have CA := fun w => bin_shl h false x by_ x0 x1 b0 b1 w
  have CB := fun w => bin_shl h false x k x0 x1 (by omega) (by omega) w
  rw [hd] at CA
  rw [hd2] at CB
  obtain ⟨A0, A1⟩ := fitZ_range h false (x * 2 ^ (k : Int).toNat)
  have CC := fun w => bin_shr h false (fitZ 8 false (x * 2 ^ (k : Int).toNat)) k A0 A1 (by omega) (by omega) w
  rw [hd2, show rightZ false (fitZ 8 false (x * 2 ^ (k : Int).toNat)) k = wrap64 (fitZ 8 false (x * 2 ^ (k : Int).toNat) % 18446744073709551616 / 2 ^ (k : Int).toNat) from rfl,
    show (k : Int).toNat = k from rfl, back_u h x k hk1, show 64 - (8 * 8 - k) = (64 - (64 - (k : Int))).toNat from by omega] at CC
  exact shifts_8f how n by_ x k _ hk (by omega) (by omega) CT CX CA CB CC w

theorem shifts_any (how : Int) (w0 : (Lit.int .i64 how).wf = true) (n : Int) (w1 : (Lit.int .i64 n).wf = true) (by_ : Int) (w2 : (Lit.int .i64 by_).wf = true) (w : World) :
    Calls Try.prog 6 #[.int .i64 how, .int .i64 n, .int .i64 by_] w (BoolIs true w) := by
  obtain ⟨n0, n1⟩ := range_i64 w1
  obtain ⟨b0, b1⟩ := range_i64 w2
  have CT : ∀ w, Calls Try.prog 8 #[.int .i64 how] w (TypeIs (tySz how) (tySg how) w) := fun w => type_any how w
  have h := tySz_ok how
  generalize tySz how = sz at CT h
  generalize tySg how = sg at CT
  rcases h with rfl | rfl | rfl | rfl <;> cases sg
  · exact shiftsW_1f how n by_ n0 n1 b0 b1 CT w
  · exact shiftsW_1t how n by_ n0 n1 b0 b1 CT w
  · exact shiftsW_2f how n by_ n0 n1 b0 b1 CT w
  · exact shiftsW_2t how n by_ n0 n1 b0 b1 CT w
  · exact shiftsW_4f how n by_ n0 n1 b0 b1 CT w
  · exact shiftsW_4t how n by_ n0 n1 b0 b1 CT w
  · exact shiftsW_8f how n by_ n0 n1 b0 b1 CT w
  · exact shiftsW_8t how n by_ n0 n1 b0 b1 CT w
end Go.Proofs.Ytbflijjkdndefaa
