import Derived.Test.YtbflijjkdndefaaArQ
import Derived.Test.YtbflijjkdndefaaArR
namespace Go.Proofs.Ytbflijjkdndefaa
open Go Go.RowKit
set_option linter.unusedVariables false
set_option linter.unusedSimpArgs false

def StrIs (s : ByteArray) (w : World) (e : Ending) (w' : World) : Prop := e = .returned (.string s) ∧ Below w.heap.size w w'

set_option maxHeartbeats 1000000 in
theorem ops_0 (n : Int) (h : (n.tmod 12 + 12) % 12 = 0) (w : World) : Calls Try.prog 9 #[.int .i64 n] w (StrIs ⟨#[43]⟩ w) := by
  have h0 := tmod_or n 12
  have h2 : -11 ≤ n.tmod 12 ∧ n.tmod 12 ≤ 11 := by omega
  obtain ⟨h3, h4⟩ := h2
  have h5 : (n.tmod 12 + 12).tmod 12 = 0 := by rw [Int.tmod_eq_emod_of_nonneg (by omega)]; exact h
  clear h0
  go_enter Try.func9, Try.ntmps9
  go_wp2
  go_ret
  exact ⟨rfl, (Below.refl _ _).alloc (Nat.le_refl _) _⟩

set_option maxHeartbeats 1000000 in
theorem ops_1 (n : Int) (h : (n.tmod 12 + 12) % 12 = 1) (w : World) : Calls Try.prog 9 #[.int .i64 n] w (StrIs ⟨#[45]⟩ w) := by
  have h0 := tmod_or n 12
  have h2 : -11 ≤ n.tmod 12 ∧ n.tmod 12 ≤ 11 := by omega
  obtain ⟨h3, h4⟩ := h2
  have h5 : (n.tmod 12 + 12).tmod 12 = 1 := by rw [Int.tmod_eq_emod_of_nonneg (by omega)]; exact h
  clear h0
  go_enter Try.func9, Try.ntmps9
  go_wp2
  go_ret
  exact ⟨rfl, (Below.refl _ _).alloc (Nat.le_refl _) _⟩

set_option maxHeartbeats 1000000 in
theorem ops_2 (n : Int) (h : (n.tmod 12 + 12) % 12 = 2) (w : World) : Calls Try.prog 9 #[.int .i64 n] w (StrIs ⟨#[42]⟩ w) := by
  have h0 := tmod_or n 12
  have h2 : -11 ≤ n.tmod 12 ∧ n.tmod 12 ≤ 11 := by omega
  obtain ⟨h3, h4⟩ := h2
  have h5 : (n.tmod 12 + 12).tmod 12 = 2 := by rw [Int.tmod_eq_emod_of_nonneg (by omega)]; exact h
  clear h0
  go_enter Try.func9, Try.ntmps9
  go_wp2
  go_ret
  exact ⟨rfl, (Below.refl _ _).alloc (Nat.le_refl _) _⟩

set_option maxHeartbeats 1000000 in
theorem ops_3 (n : Int) (h : (n.tmod 12 + 12) % 12 = 3) (w : World) : Calls Try.prog 9 #[.int .i64 n] w (StrIs ⟨#[38]⟩ w) := by
  have h0 := tmod_or n 12
  have h2 : -11 ≤ n.tmod 12 ∧ n.tmod 12 ≤ 11 := by omega
  obtain ⟨h3, h4⟩ := h2
  have h5 : (n.tmod 12 + 12).tmod 12 = 3 := by rw [Int.tmod_eq_emod_of_nonneg (by omega)]; exact h
  clear h0
  go_enter Try.func9, Try.ntmps9
  go_wp2
  go_ret
  exact ⟨rfl, (Below.refl _ _).alloc (Nat.le_refl _) _⟩

set_option maxHeartbeats 1000000 in
theorem ops_4 (n : Int) (h : (n.tmod 12 + 12) % 12 = 4) (w : World) : Calls Try.prog 9 #[.int .i64 n] w (StrIs ⟨#[124]⟩ w) := by
  have h0 := tmod_or n 12
  have h2 : -11 ≤ n.tmod 12 ∧ n.tmod 12 ≤ 11 := by omega
  obtain ⟨h3, h4⟩ := h2
  have h5 : (n.tmod 12 + 12).tmod 12 = 4 := by rw [Int.tmod_eq_emod_of_nonneg (by omega)]; exact h
  clear h0
  go_enter Try.func9, Try.ntmps9
  go_wp2
  go_ret
  exact ⟨rfl, (Below.refl _ _).alloc (Nat.le_refl _) _⟩

set_option maxHeartbeats 1000000 in
theorem ops_5 (n : Int) (h : (n.tmod 12 + 12) % 12 = 5) (w : World) : Calls Try.prog 9 #[.int .i64 n] w (StrIs ⟨#[94]⟩ w) := by
  have h0 := tmod_or n 12
  have h2 : -11 ≤ n.tmod 12 ∧ n.tmod 12 ≤ 11 := by omega
  obtain ⟨h3, h4⟩ := h2
  have h5 : (n.tmod 12 + 12).tmod 12 = 5 := by rw [Int.tmod_eq_emod_of_nonneg (by omega)]; exact h
  clear h0
  go_enter Try.func9, Try.ntmps9
  go_wp2
  go_ret
  exact ⟨rfl, (Below.refl _ _).alloc (Nat.le_refl _) _⟩

set_option maxHeartbeats 1000000 in
theorem ops_6 (n : Int) (h : (n.tmod 12 + 12) % 12 = 6) (w : World) : Calls Try.prog 9 #[.int .i64 n] w (StrIs ⟨#[60, 60]⟩ w) := by
  have h0 := tmod_or n 12
  have h2 : -11 ≤ n.tmod 12 ∧ n.tmod 12 ≤ 11 := by omega
  obtain ⟨h3, h4⟩ := h2
  have h5 : (n.tmod 12 + 12).tmod 12 = 6 := by rw [Int.tmod_eq_emod_of_nonneg (by omega)]; exact h
  clear h0
  go_enter Try.func9, Try.ntmps9
  go_wp2
  go_ret
  exact ⟨rfl, (Below.refl _ _).alloc (Nat.le_refl _) _⟩

set_option maxHeartbeats 1000000 in
theorem ops_7 (n : Int) (h : (n.tmod 12 + 12) % 12 = 7) (w : World) : Calls Try.prog 9 #[.int .i64 n] w (StrIs ⟨#[62, 62]⟩ w) := by
  have h0 := tmod_or n 12
  have h2 : -11 ≤ n.tmod 12 ∧ n.tmod 12 ≤ 11 := by omega
  obtain ⟨h3, h4⟩ := h2
  have h5 : (n.tmod 12 + 12).tmod 12 = 7 := by rw [Int.tmod_eq_emod_of_nonneg (by omega)]; exact h
  clear h0
  go_enter Try.func9, Try.ntmps9
  go_wp2
  go_ret
  exact ⟨rfl, (Below.refl _ _).alloc (Nat.le_refl _) _⟩

set_option maxHeartbeats 1000000 in
theorem ops_8 (n : Int) (h : (n.tmod 12 + 12) % 12 = 8) (w : World) : Calls Try.prog 9 #[.int .i64 n] w (StrIs ⟨#[47]⟩ w) := by
  have h0 := tmod_or n 12
  have h2 : -11 ≤ n.tmod 12 ∧ n.tmod 12 ≤ 11 := by omega
  obtain ⟨h3, h4⟩ := h2
  have h5 : (n.tmod 12 + 12).tmod 12 = 8 := by rw [Int.tmod_eq_emod_of_nonneg (by omega)]; exact h
  clear h0
  go_enter Try.func9, Try.ntmps9
  go_wp2
  go_ret
  exact ⟨rfl, (Below.refl _ _).alloc (Nat.le_refl _) _⟩

set_option maxHeartbeats 1000000 in
theorem ops_9 (n : Int) (h : (n.tmod 12 + 12) % 12 = 9) (w : World) : Calls Try.prog 9 #[.int .i64 n] w (StrIs ⟨#[37]⟩ w) := by
  have h0 := tmod_or n 12
  have h2 : -11 ≤ n.tmod 12 ∧ n.tmod 12 ≤ 11 := by omega
  obtain ⟨h3, h4⟩ := h2
  have h5 : (n.tmod 12 + 12).tmod 12 = 9 := by rw [Int.tmod_eq_emod_of_nonneg (by omega)]; exact h
  clear h0
  go_enter Try.func9, Try.ntmps9
  go_wp2
  go_ret
  exact ⟨rfl, (Below.refl _ _).alloc (Nat.le_refl _) _⟩

set_option maxHeartbeats 1000000 in
theorem ops_10 (n : Int) (h : (n.tmod 12 + 12) % 12 = 10) (w : World) : Calls Try.prog 9 #[.int .i64 n] w (StrIs ⟨#[61, 61]⟩ w) := by
  have h0 := tmod_or n 12
  have h2 : -11 ≤ n.tmod 12 ∧ n.tmod 12 ≤ 11 := by omega
  obtain ⟨h3, h4⟩ := h2
  have h5 : (n.tmod 12 + 12).tmod 12 = 10 := by rw [Int.tmod_eq_emod_of_nonneg (by omega)]; exact h
  clear h0
  go_enter Try.func9, Try.ntmps9
  go_wp2
  go_ret
  exact ⟨rfl, (Below.refl _ _).alloc (Nat.le_refl _) _⟩

set_option maxHeartbeats 1000000 in
theorem ops_11 (n : Int) (h : (n.tmod 12 + 12) % 12 = 11) (w : World) : Calls Try.prog 9 #[.int .i64 n] w (StrIs ⟨#[63]⟩ w) := by
  have h0 := tmod_or n 12
  have h2 : -11 ≤ n.tmod 12 ∧ n.tmod 12 ≤ 11 := by omega
  obtain ⟨h3, h4⟩ := h2
  have h5 : (n.tmod 12 + 12).tmod 12 = 11 := by rw [Int.tmod_eq_emod_of_nonneg (by omega)]; exact h
  clear h0
  go_enter Try.func9, Try.ntmps9
  go_wp2
  go_ret
  exact ⟨rfl, (Below.refl _ _).alloc (Nat.le_refl _) _⟩
end Go.Proofs.Ytbflijjkdndefaa
