import Derived.Test.YtbflijjkdndefaaArF
namespace Go.Proofs.Ytbflijjkdndefaa
open Go Go.RowKit
set_option linter.unusedVariables false
set_option linter.unusedSimpArgs false

theorem tmod_or (n m : Int) : (0 ≤ n ∧ n.tmod m = n % m) ∨ (n < 0 ∧ n.tmod m = -((-n) % m)) := by
  rcases (show n < 0 ∨ 0 ≤ n by omega) with h | h
  · right
    refine ⟨h, ?_⟩
    have := Int.tmod_eq_emod_of_nonneg (b := m) (show 0 ≤ -n by omega)
    rw [Int.neg_tmod] at this
    omega
  · exact .inl ⟨h, Int.tmod_eq_emod_of_nonneg h⟩

set_option maxHeartbeats 4000000 in
theorem rfit_1t (n : Int) (h0 : -9223372036854775808 ≤ n) (h1 : n ≤ 9223372036854775807) (w : World) : Calls Try.prog 10 #[tV 1 true, .int .i64 n] w (IntIs .i64 (fitZ 1 true n) w) := by
  have HT := Lib.hid (tmod_or n 256)
  rw [tV_1]
  go_enter Try.func10, Try.ntmps10
  go_wp2
  refine wp_loop_rounds 2 ?_
  rw [rounds_succ]
  go_wp2
  rw [rounds_succ]
  go_wp2
  all_goals
    go_ret
    refine ⟨ret_int ?_, (Below.refl _ _).alloc (Nat.le_refl _) _⟩
    have ht := HT.out
    obtain ⟨l1, l2, l3, l4, l5, l6, l7, l8⟩ := fitZ_lit n
    simp only [l1, l2, l3, l4, l5, l6]
    clear l1 l2 l3 l4 l5 l6 l7 l8 HT
    (try simp only [w64] at *)
    omega

set_option maxHeartbeats 4000000 in
theorem rfit_1f (n : Int) (h0 : -9223372036854775808 ≤ n) (h1 : n ≤ 9223372036854775807) (w : World) : Calls Try.prog 10 #[tV 1 false, .int .i64 n] w (IntIs .i64 (fitZ 1 false n) w) := by
  have HT := Lib.hid (tmod_or n 256)
  rw [tV_1]
  go_enter Try.func10, Try.ntmps10
  go_wp2
  refine wp_loop_rounds 2 ?_
  rw [rounds_succ]
  go_wp2
  rw [rounds_succ]
  go_wp2
  all_goals
    go_ret
    refine ⟨ret_int ?_, (Below.refl _ _).alloc (Nat.le_refl _) _⟩
    have ht := HT.out
    obtain ⟨l1, l2, l3, l4, l5, l6, l7, l8⟩ := fitZ_lit n
    simp only [l1, l2, l3, l4, l5, l6]
    clear l1 l2 l3 l4 l5 l6 l7 l8 HT
    (try simp only [w64] at *)
    omega

set_option maxHeartbeats 4000000 in
theorem rfit_2t (n : Int) (h0 : -9223372036854775808 ≤ n) (h1 : n ≤ 9223372036854775807) (w : World) : Calls Try.prog 10 #[tV 2 true, .int .i64 n] w (IntIs .i64 (fitZ 2 true n) w) := by
  have HT := Lib.hid (tmod_or n 65536)
  rw [tV_2]
  go_enter Try.func10, Try.ntmps10
  go_wp2
  refine wp_loop_rounds 3 ?_
  rw [rounds_succ]
  go_wp2
  rw [rounds_succ]
  go_wp2
  rw [rounds_succ]
  go_wp2
  all_goals
    go_ret
    refine ⟨ret_int ?_, (Below.refl _ _).alloc (Nat.le_refl _) _⟩
    have ht := HT.out
    obtain ⟨l1, l2, l3, l4, l5, l6, l7, l8⟩ := fitZ_lit n
    simp only [l1, l2, l3, l4, l5, l6]
    clear l1 l2 l3 l4 l5 l6 l7 l8 HT
    (try simp only [w64] at *)
    omega

set_option maxHeartbeats 4000000 in
theorem rfit_2f (n : Int) (h0 : -9223372036854775808 ≤ n) (h1 : n ≤ 9223372036854775807) (w : World) : Calls Try.prog 10 #[tV 2 false, .int .i64 n] w (IntIs .i64 (fitZ 2 false n) w) := by
  have HT := Lib.hid (tmod_or n 65536)
  rw [tV_2]
  go_enter Try.func10, Try.ntmps10
  go_wp2
  refine wp_loop_rounds 3 ?_
  rw [rounds_succ]
  go_wp2
  rw [rounds_succ]
  go_wp2
  rw [rounds_succ]
  go_wp2
  all_goals
    go_ret
    refine ⟨ret_int ?_, (Below.refl _ _).alloc (Nat.le_refl _) _⟩
    have ht := HT.out
    obtain ⟨l1, l2, l3, l4, l5, l6, l7, l8⟩ := fitZ_lit n
    simp only [l1, l2, l3, l4, l5, l6]
    clear l1 l2 l3 l4 l5 l6 l7 l8 HT
    (try simp only [w64] at *)
    omega

set_option maxHeartbeats 4000000 in
theorem rfit_4t (n : Int) (h0 : -9223372036854775808 ≤ n) (h1 : n ≤ 9223372036854775807) (w : World) : Calls Try.prog 10 #[tV 4 true, .int .i64 n] w (IntIs .i64 (fitZ 4 true n) w) := by
  have HT := Lib.hid (tmod_or n 4294967296)
  rw [tV_4]
  go_enter Try.func10, Try.ntmps10
  go_wp2
  refine wp_loop_rounds 5 ?_
  rw [rounds_succ]
  go_wp2
  rw [rounds_succ]
  go_wp2
  rw [rounds_succ]
  go_wp2
  rw [rounds_succ]
  go_wp2
  rw [rounds_succ]
  go_wp2
  all_goals
    go_ret
    refine ⟨ret_int ?_, (Below.refl _ _).alloc (Nat.le_refl _) _⟩
    have ht := HT.out
    obtain ⟨l1, l2, l3, l4, l5, l6, l7, l8⟩ := fitZ_lit n
    simp only [l1, l2, l3, l4, l5, l6]
    clear l1 l2 l3 l4 l5 l6 l7 l8 HT
    (try simp only [w64] at *)
    omega

set_option maxHeartbeats 4000000 in
theorem rfit_4f (n : Int) (h0 : -9223372036854775808 ≤ n) (h1 : n ≤ 9223372036854775807) (w : World) : Calls Try.prog 10 #[tV 4 false, .int .i64 n] w (IntIs .i64 (fitZ 4 false n) w) := by
  have HT := Lib.hid (tmod_or n 4294967296)
  rw [tV_4]
  go_enter Try.func10, Try.ntmps10
  go_wp2
  refine wp_loop_rounds 5 ?_
  rw [rounds_succ]
  go_wp2
  rw [rounds_succ]
  go_wp2
  rw [rounds_succ]
  go_wp2
  rw [rounds_succ]
  go_wp2
  rw [rounds_succ]
  go_wp2
  all_goals
    go_ret
    refine ⟨ret_int ?_, (Below.refl _ _).alloc (Nat.le_refl _) _⟩
    have ht := HT.out
    obtain ⟨l1, l2, l3, l4, l5, l6, l7, l8⟩ := fitZ_lit n
    simp only [l1, l2, l3, l4, l5, l6]
    clear l1 l2 l3 l4 l5 l6 l7 l8 HT
    (try simp only [w64] at *)
    omega

set_option maxHeartbeats 1000000 in
theorem rfit_8t (n : Int) (h0 : -9223372036854775808 ≤ n) (h1 : n ≤ 9223372036854775807) (w : World) : Calls Try.prog 10 #[tV 8 true, .int .i64 n] w (IntIs .i64 (fitZ 8 true n) w) := by
  rw [tV_8]
  go_enter Try.func10, Try.ntmps10
  go_wp2
  go_ret
  refine ⟨ret_int ?_, (Below.refl _ _).alloc (Nat.le_refl _) _⟩
  obtain ⟨l1, l2, l3, l4, l5, l6, l7, l8⟩ := fitZ_lit n
  simp only [l7, l8]
  omega

set_option maxHeartbeats 1000000 in
theorem rfit_8f (n : Int) (h0 : -9223372036854775808 ≤ n) (h1 : n ≤ 9223372036854775807) (w : World) : Calls Try.prog 10 #[tV 8 false, .int .i64 n] w (IntIs .i64 (fitZ 8 false n) w) := by
  rw [tV_8]
  go_enter Try.func10, Try.ntmps10
  go_wp2
  go_ret
  refine ⟨ret_int ?_, (Below.refl _ _).alloc (Nat.le_refl _) _⟩
  obtain ⟨l1, l2, l3, l4, l5, l6, l7, l8⟩ := fitZ_lit n
  simp only [l7, l8]
  omega

theorem rfit_any {sz : Nat} (h : szOk sz) (sg : Bool) (n : Int) (h0 : -9223372036854775808 ≤ n) (h1 : n ≤ 9223372036854775807) (w : World) : Calls Try.prog 10 #[tV sz sg, .int .i64 n] w (IntIs .i64 (fitZ sz sg n) w) := by
  rcases h with rfl | rfl | rfl | rfl <;> cases sg
  · exact rfit_1f n h0 h1 w
  · exact rfit_1t n h0 h1 w
  · exact rfit_2f n h0 h1 w
  · exact rfit_2t n h0 h1 w
  · exact rfit_4f n h0 h1 w
  · exact rfit_4t n h0 h1 w
  · exact rfit_8f n h0 h1 w
  · exact rfit_8t n h0 h1 w

set_option maxHeartbeats 4000000 in
theorem rCmp_0t (sz : Nat) (a b : Int) (a0 : -9223372036854775808 ≤ a) (a1 : a ≤ 9223372036854775807) (b0 : -9223372036854775808 ≤ b) (b1 : b ≤ 9223372036854775807) (w : World) : Calls Try.prog 15 #[.string ⟨#[61, 61]⟩, tV sz true, .int .i64 a, .int .i64 b] w (IntIs .i64 (bitI (cmpYes 0 (ordZ true a b))) w) := by
  rw [show tV sz true = .agg #[.int .i64 1, .int .i64 sz, .bool true, .bool false, .pointer none, .int .i64 0, .int .i64 0, .slice none 0 0, .pointer none] from rfl]
  go_enter Try.func15, Try.ntmps15
  go_wp2
  all_goals
    go_ret
    refine ⟨ret_int ?_, (Below.refl _ _).alloc (Nat.le_refl _) _⟩
    simp [cmpYes, ordZ, cmpZ, bitI]
    try (repeat' split) <;> first | omega | (simp_all; done) | (simp_all; omega)

set_option maxHeartbeats 4000000 in
theorem rCmp_0f (sz : Nat) (a b : Int) (a0 : -9223372036854775808 ≤ a) (a1 : a ≤ 9223372036854775807) (b0 : -9223372036854775808 ≤ b) (b1 : b ≤ 9223372036854775807) (w : World) : Calls Try.prog 15 #[.string ⟨#[61, 61]⟩, tV sz false, .int .i64 a, .int .i64 b] w (IntIs .i64 (bitI (cmpYes 0 (ordZ false a b))) w) := by
  rw [show tV sz false = .agg #[.int .i64 1, .int .i64 sz, .bool false, .bool false, .pointer none, .int .i64 0, .int .i64 0, .slice none 0 0, .pointer none] from rfl]
  go_enter Try.func15, Try.ntmps15
  go_wp2
  all_goals
    go_ret
    refine ⟨ret_int ?_, (Below.refl _ _).alloc (Nat.le_refl _) _⟩
    simp [cmpYes, ordZ, cmpZ, bitI]
    try (repeat' split) <;> first | omega | (simp_all; done) | (simp_all; omega)

set_option maxHeartbeats 4000000 in
theorem rCmp_1t (sz : Nat) (a b : Int) (a0 : -9223372036854775808 ≤ a) (a1 : a ≤ 9223372036854775807) (b0 : -9223372036854775808 ≤ b) (b1 : b ≤ 9223372036854775807) (w : World) : Calls Try.prog 15 #[.string ⟨#[33, 61]⟩, tV sz true, .int .i64 a, .int .i64 b] w (IntIs .i64 (bitI (cmpYes 1 (ordZ true a b))) w) := by
  rw [show tV sz true = .agg #[.int .i64 1, .int .i64 sz, .bool true, .bool false, .pointer none, .int .i64 0, .int .i64 0, .slice none 0 0, .pointer none] from rfl]
  go_enter Try.func15, Try.ntmps15
  go_wp2
  all_goals
    go_ret
    refine ⟨ret_int ?_, (Below.refl _ _).alloc (Nat.le_refl _) _⟩
    simp [cmpYes, ordZ, cmpZ, bitI]
    try (repeat' split) <;> first | omega | (simp_all; done) | (simp_all; omega)

set_option maxHeartbeats 4000000 in
theorem rCmp_1f (sz : Nat) (a b : Int) (a0 : -9223372036854775808 ≤ a) (a1 : a ≤ 9223372036854775807) (b0 : -9223372036854775808 ≤ b) (b1 : b ≤ 9223372036854775807) (w : World) : Calls Try.prog 15 #[.string ⟨#[33, 61]⟩, tV sz false, .int .i64 a, .int .i64 b] w (IntIs .i64 (bitI (cmpYes 1 (ordZ false a b))) w) := by
  rw [show tV sz false = .agg #[.int .i64 1, .int .i64 sz, .bool false, .bool false, .pointer none, .int .i64 0, .int .i64 0, .slice none 0 0, .pointer none] from rfl]
  go_enter Try.func15, Try.ntmps15
  go_wp2
  all_goals
    go_ret
    refine ⟨ret_int ?_, (Below.refl _ _).alloc (Nat.le_refl _) _⟩
    simp [cmpYes, ordZ, cmpZ, bitI]
    try (repeat' split) <;> first | omega | (simp_all; done) | (simp_all; omega)

set_option maxHeartbeats 4000000 in
theorem rCmp_2t (sz : Nat) (a b : Int) (a0 : -9223372036854775808 ≤ a) (a1 : a ≤ 9223372036854775807) (b0 : -9223372036854775808 ≤ b) (b1 : b ≤ 9223372036854775807) (w : World) : Calls Try.prog 15 #[.string ⟨#[60]⟩, tV sz true, .int .i64 a, .int .i64 b] w (IntIs .i64 (bitI (cmpYes 2 (ordZ true a b))) w) := by
  rw [show tV sz true = .agg #[.int .i64 1, .int .i64 sz, .bool true, .bool false, .pointer none, .int .i64 0, .int .i64 0, .slice none 0 0, .pointer none] from rfl]
  go_enter Try.func15, Try.ntmps15
  go_wp2
  all_goals
    go_ret
    refine ⟨ret_int ?_, (Below.refl _ _).alloc (Nat.le_refl _) _⟩
    simp [cmpYes, ordZ, cmpZ, bitI]
    try (repeat' split) <;> first | omega | (simp_all; done) | (simp_all; omega)

set_option maxHeartbeats 4000000 in
theorem rCmp_2f (sz : Nat) (a b : Int) (a0 : -9223372036854775808 ≤ a) (a1 : a ≤ 9223372036854775807) (b0 : -9223372036854775808 ≤ b) (b1 : b ≤ 9223372036854775807) (w : World) : Calls Try.prog 15 #[.string ⟨#[60]⟩, tV sz false, .int .i64 a, .int .i64 b] w (IntIs .i64 (bitI (cmpYes 2 (ordZ false a b))) w) := by
  rw [show tV sz false = .agg #[.int .i64 1, .int .i64 sz, .bool false, .bool false, .pointer none, .int .i64 0, .int .i64 0, .slice none 0 0, .pointer none] from rfl]
  go_enter Try.func15, Try.ntmps15
  go_wp2
  all_goals
    go_ret
    refine ⟨ret_int ?_, (Below.refl _ _).alloc (Nat.le_refl _) _⟩
    simp [cmpYes, ordZ, cmpZ, bitI]
    try (repeat' split) <;> first | omega | (simp_all; done) | (simp_all; omega)

set_option maxHeartbeats 4000000 in
theorem rCmp_3t (sz : Nat) (a b : Int) (a0 : -9223372036854775808 ≤ a) (a1 : a ≤ 9223372036854775807) (b0 : -9223372036854775808 ≤ b) (b1 : b ≤ 9223372036854775807) (w : World) : Calls Try.prog 15 #[.string ⟨#[62]⟩, tV sz true, .int .i64 a, .int .i64 b] w (IntIs .i64 (bitI (cmpYes 3 (ordZ true a b))) w) := by
  rw [show tV sz true = .agg #[.int .i64 1, .int .i64 sz, .bool true, .bool false, .pointer none, .int .i64 0, .int .i64 0, .slice none 0 0, .pointer none] from rfl]
  go_enter Try.func15, Try.ntmps15
  go_wp2
  all_goals
    go_ret
    refine ⟨ret_int ?_, (Below.refl _ _).alloc (Nat.le_refl _) _⟩
    simp [cmpYes, ordZ, cmpZ, bitI]
    try (repeat' split) <;> first | omega | (simp_all; done) | (simp_all; omega)

set_option maxHeartbeats 4000000 in
theorem rCmp_3f (sz : Nat) (a b : Int) (a0 : -9223372036854775808 ≤ a) (a1 : a ≤ 9223372036854775807) (b0 : -9223372036854775808 ≤ b) (b1 : b ≤ 9223372036854775807) (w : World) : Calls Try.prog 15 #[.string ⟨#[62]⟩, tV sz false, .int .i64 a, .int .i64 b] w (IntIs .i64 (bitI (cmpYes 3 (ordZ false a b))) w) := by
  rw [show tV sz false = .agg #[.int .i64 1, .int .i64 sz, .bool false, .bool false, .pointer none, .int .i64 0, .int .i64 0, .slice none 0 0, .pointer none] from rfl]
  go_enter Try.func15, Try.ntmps15
  go_wp2
  all_goals
    go_ret
    refine ⟨ret_int ?_, (Below.refl _ _).alloc (Nat.le_refl _) _⟩
    simp [cmpYes, ordZ, cmpZ, bitI]
    try (repeat' split) <;> first | omega | (simp_all; done) | (simp_all; omega)

set_option maxHeartbeats 4000000 in
theorem rCmp_4t (sz : Nat) (a b : Int) (a0 : -9223372036854775808 ≤ a) (a1 : a ≤ 9223372036854775807) (b0 : -9223372036854775808 ≤ b) (b1 : b ≤ 9223372036854775807) (w : World) : Calls Try.prog 15 #[.string ⟨#[60, 61]⟩, tV sz true, .int .i64 a, .int .i64 b] w (IntIs .i64 (bitI (cmpYes 4 (ordZ true a b))) w) := by
  rw [show tV sz true = .agg #[.int .i64 1, .int .i64 sz, .bool true, .bool false, .pointer none, .int .i64 0, .int .i64 0, .slice none 0 0, .pointer none] from rfl]
  go_enter Try.func15, Try.ntmps15
  go_wp2
  all_goals
    go_ret
    refine ⟨ret_int ?_, (Below.refl _ _).alloc (Nat.le_refl _) _⟩
    simp [cmpYes, ordZ, cmpZ, bitI]
    try (repeat' split) <;> first | omega | (simp_all; done) | (simp_all; omega)

set_option maxHeartbeats 4000000 in
theorem rCmp_4f (sz : Nat) (a b : Int) (a0 : -9223372036854775808 ≤ a) (a1 : a ≤ 9223372036854775807) (b0 : -9223372036854775808 ≤ b) (b1 : b ≤ 9223372036854775807) (w : World) : Calls Try.prog 15 #[.string ⟨#[60, 61]⟩, tV sz false, .int .i64 a, .int .i64 b] w (IntIs .i64 (bitI (cmpYes 4 (ordZ false a b))) w) := by
  rw [show tV sz false = .agg #[.int .i64 1, .int .i64 sz, .bool false, .bool false, .pointer none, .int .i64 0, .int .i64 0, .slice none 0 0, .pointer none] from rfl]
  go_enter Try.func15, Try.ntmps15
  go_wp2
  all_goals
    go_ret
    refine ⟨ret_int ?_, (Below.refl _ _).alloc (Nat.le_refl _) _⟩
    simp [cmpYes, ordZ, cmpZ, bitI]
    try (repeat' split) <;> first | omega | (simp_all; done) | (simp_all; omega)

set_option maxHeartbeats 4000000 in
theorem rCmp_5t (sz : Nat) (a b : Int) (a0 : -9223372036854775808 ≤ a) (a1 : a ≤ 9223372036854775807) (b0 : -9223372036854775808 ≤ b) (b1 : b ≤ 9223372036854775807) (w : World) : Calls Try.prog 15 #[.string ⟨#[62, 61]⟩, tV sz true, .int .i64 a, .int .i64 b] w (IntIs .i64 (bitI (cmpYes 5 (ordZ true a b))) w) := by
  rw [show tV sz true = .agg #[.int .i64 1, .int .i64 sz, .bool true, .bool false, .pointer none, .int .i64 0, .int .i64 0, .slice none 0 0, .pointer none] from rfl]
  go_enter Try.func15, Try.ntmps15
  go_wp2
  all_goals
    go_ret
    refine ⟨ret_int ?_, (Below.refl _ _).alloc (Nat.le_refl _) _⟩
    simp [cmpYes, ordZ, cmpZ, bitI]
    try (repeat' split) <;> first | omega | (simp_all; done) | (simp_all; omega)

set_option maxHeartbeats 4000000 in
theorem rCmp_5f (sz : Nat) (a b : Int) (a0 : -9223372036854775808 ≤ a) (a1 : a ≤ 9223372036854775807) (b0 : -9223372036854775808 ≤ b) (b1 : b ≤ 9223372036854775807) (w : World) : Calls Try.prog 15 #[.string ⟨#[62, 61]⟩, tV sz false, .int .i64 a, .int .i64 b] w (IntIs .i64 (bitI (cmpYes 5 (ordZ false a b))) w) := by
  rw [show tV sz false = .agg #[.int .i64 1, .int .i64 sz, .bool false, .bool false, .pointer none, .int .i64 0, .int .i64 0, .slice none 0 0, .pointer none] from rfl]
  go_enter Try.func15, Try.ntmps15
  go_wp2
  all_goals
    go_ret
    refine ⟨ret_int ?_, (Below.refl _ _).alloc (Nat.le_refl _) _⟩
    simp [cmpYes, ordZ, cmpZ, bitI]
    try (repeat' split) <;> first | omega | (simp_all; done) | (simp_all; omega)

set_option maxHeartbeats 4000000 in
theorem rCmp_6t (sz : Nat) (a b : Int) (a0 : -9223372036854775808 ≤ a) (a1 : a ≤ 9223372036854775807) (b0 : -9223372036854775808 ≤ b) (b1 : b ≤ 9223372036854775807) (w : World) : Calls Try.prog 15 #[.string ⟨#[43]⟩, tV sz true, .int .i64 a, .int .i64 b] w (IntIs .i64 (bitI (cmpYes 6 (ordZ true a b))) w) := by
  rw [show tV sz true = .agg #[.int .i64 1, .int .i64 sz, .bool true, .bool false, .pointer none, .int .i64 0, .int .i64 0, .slice none 0 0, .pointer none] from rfl]
  go_enter Try.func15, Try.ntmps15
  go_wp2
  all_goals
    go_ret
    refine ⟨ret_int ?_, (Below.refl _ _).alloc (Nat.le_refl _) _⟩
    simp [cmpYes, ordZ, cmpZ, bitI]
    try (repeat' split) <;> first | omega | (simp_all; done) | (simp_all; omega)

set_option maxHeartbeats 4000000 in
theorem rCmp_6f (sz : Nat) (a b : Int) (a0 : -9223372036854775808 ≤ a) (a1 : a ≤ 9223372036854775807) (b0 : -9223372036854775808 ≤ b) (b1 : b ≤ 9223372036854775807) (w : World) : Calls Try.prog 15 #[.string ⟨#[43]⟩, tV sz false, .int .i64 a, .int .i64 b] w (IntIs .i64 (bitI (cmpYes 6 (ordZ false a b))) w) := by
  rw [show tV sz false = .agg #[.int .i64 1, .int .i64 sz, .bool false, .bool false, .pointer none, .int .i64 0, .int .i64 0, .slice none 0 0, .pointer none] from rfl]
  go_enter Try.func15, Try.ntmps15
  go_wp2
  all_goals
    go_ret
    refine ⟨ret_int ?_, (Below.refl _ _).alloc (Nat.le_refl _) _⟩
    simp [cmpYes, ordZ, cmpZ, bitI]
    try (repeat' split) <;> first | omega | (simp_all; done) | (simp_all; omega)
end Go.Proofs.Ytbflijjkdndefaa
