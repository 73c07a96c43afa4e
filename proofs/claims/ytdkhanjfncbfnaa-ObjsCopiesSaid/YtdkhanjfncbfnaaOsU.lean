import Derived.Test.YtdkhanjfncbfnaaOsT
namespace Go.Proofs.Ytdkhanjfncbfnaa
open Go Go.RowKit
set_option linter.unusedVariables false
set_option linter.unusedSimpArgs false

theorem i64_and15 (n : Int) : bits .and .i64 n 15 = n % 16 := by
  have h3 : (BitVec.ofInt 64 15).toNat = 2 ^ 4 - 1 := by decide
  have key : (BitVec.ofInt 64 n &&& BitVec.ofInt 64 15).toNat = (n % ((2 ^ 64 : Nat) : Int)).toNat % 2 ^ 4 := by
    rw [BitVec.toNat_and, BitVec.toNat_ofInt, h3, Nat.and_two_pow_sub_one_eq_mod]
  show IntKind.i64.wrap ((BitVec.ofInt 64 n &&& BitVec.ofInt 64 15).toNat : Nat) = n % 16
  rw [key, IntKind.wrap_i64]
  omega
theorem i64_and255 (n : Int) : bits .and .i64 n 255 = n % 256 := by
  have h3 : (BitVec.ofInt 64 255).toNat = 2 ^ 8 - 1 := by decide
  have key : (BitVec.ofInt 64 n &&& BitVec.ofInt 64 255).toNat = (n % ((2 ^ 64 : Nat) : Int)).toNat % 2 ^ 8 := by
    rw [BitVec.toNat_and, BitVec.toNat_ofInt, h3, Nat.and_two_pow_sub_one_eq_mod]
  show IntKind.i64.wrap ((BitVec.ofInt 64 n &&& BitVec.ofInt 64 255).toNat : Nat) = n % 256
  rw [key, IntKind.wrap_i64]
  omega
set_option maxRecDepth 100000 in
theorem typ_0 (w : World) : Calls Try.prog 20 #[.int .i64 0] w fun e w' => e = .returned (.agg #[.int .i64 1, .int .i64 1, .bool true, .bool false, .pointer none, .int .i64 0, .int .i64 0, .slice none 0 0, .pointer none]) ∧ Below w.heap.size w w' := by
  have b16 : bits .and .i64 0 16 = 0 := by decide
  have b3 : bits .and .i64 0 3 = 0 := by decide
  have b4 : bits .and .i64 0 4 = 0 := by decide
  have b8 : bits .and .i64 0 8 = 0 := by decide
  go_enter Try.func20, Try.ntmps20
  go_wp2_with fail
  (with_reducible refine (intOf_any _ _ _).mono ?_)
  rintro e w1 ⟨rfl, hb1⟩
  have h2 : ∀ j, w1.frozen? ⟨w.heap.size, j, none⟩ = false := fun j => by rw [hb1.frozen (by simp)]; exact frozen_new _ _ _ _ _ rfl
  have HB1 : Hid (Below w.heap.size w w1) := Lib.hid (((Below.refl _ _).alloc (Nat.le_refl _) _).trans (hb1.mono (by simp)))
  have hs1 : w.heap.size < w1.heap.size := by have := hb1.size; simp at this; omega
  have hs2 : w.heap.size ≠ w1.heap.size := by omega
  have y0 : w1.cell? ⟨w.heap.size, 0, none⟩ = some (.int .i64 0) := by rw [hb1.cell (by simp)]; exact cell_new _ _ _ _ _ rfl
  have y1 : w1.cell? ⟨w.heap.size, 1, none⟩ = some (.int .i64 0) := by rw [hb1.cell (by simp)]; exact cell_new _ _ _ _ _ rfl
  have y2 : w1.cell? ⟨w.heap.size, 2, none⟩ = some (.bool false) := by rw [hb1.cell (by simp)]; exact cell_new _ _ _ _ _ rfl
  have y3 : w1.cell? ⟨w.heap.size, 3, none⟩ = some (.bool false) := by rw [hb1.cell (by simp)]; exact cell_new _ _ _ _ _ rfl
  have y4 : w1.cell? ⟨w.heap.size, 4, none⟩ = some (.pointer none) := by rw [hb1.cell (by simp)]; exact cell_new _ _ _ _ _ rfl
  have y5 : w1.cell? ⟨w.heap.size, 5, none⟩ = some (.int .i64 0) := by rw [hb1.cell (by simp)]; exact cell_new _ _ _ _ _ rfl
  have y6 : w1.cell? ⟨w.heap.size, 6, none⟩ = some (.int .i64 0) := by rw [hb1.cell (by simp)]; exact cell_new _ _ _ _ _ rfl
  have y7 : w1.cell? ⟨w.heap.size, 7, none⟩ = some (.slice none 0 0) := by rw [hb1.cell (by simp)]; exact cell_new _ _ _ _ _ rfl
  have y8 : w1.cell? ⟨w.heap.size, 8, none⟩ = some (.pointer none) := by rw [hb1.cell (by simp)]; exact cell_new _ _ _ _ _ rfl
  clear hb1
  go_wp2_with fail
  have hbv := HB1.out
  refine bodyPost_ret (v := .agg #[.int .i64 1, .int .i64 1, .bool true, .bool false, .pointer none, .int .i64 0, .int .i64 0, .slice none 0 0, .pointer none]) ?_ rfl ⟨rfl, ?_⟩
  · simp [results, Try.results20, go_sem, y0, y1, y2, y3, y4, y5, y6, y7, y8, hs1, hs2]
  · ((repeat (first | (with_reducible exact hbv) | (with_reducible apply Below.setCell) | (with_reducible apply Below.alloc) | (with_reducible apply Below.drew))) <;> first | omega | (simp <;> omega))
set_option maxRecDepth 100000 in
theorem typ_1 (w : World) : Calls Try.prog 20 #[.int .i64 1] w fun e w' => e = .returned (.agg #[.int .i64 1, .int .i64 2, .bool true, .bool false, .pointer none, .int .i64 0, .int .i64 0, .slice none 0 0, .pointer none]) ∧ Below w.heap.size w w' := by
  have b16 : bits .and .i64 1 16 = 0 := by decide
  have b3 : bits .and .i64 1 3 = 1 := by decide
  have b4 : bits .and .i64 1 4 = 0 := by decide
  have b8 : bits .and .i64 1 8 = 0 := by decide
  go_enter Try.func20, Try.ntmps20
  go_wp2_with fail
  (with_reducible refine (intOf_any _ _ _).mono ?_)
  rintro e w1 ⟨rfl, hb1⟩
  have h2 : ∀ j, w1.frozen? ⟨w.heap.size, j, none⟩ = false := fun j => by rw [hb1.frozen (by simp)]; exact frozen_new _ _ _ _ _ rfl
  have HB1 : Hid (Below w.heap.size w w1) := Lib.hid (((Below.refl _ _).alloc (Nat.le_refl _) _).trans (hb1.mono (by simp)))
  have hs1 : w.heap.size < w1.heap.size := by have := hb1.size; simp at this; omega
  have hs2 : w.heap.size ≠ w1.heap.size := by omega
  have y0 : w1.cell? ⟨w.heap.size, 0, none⟩ = some (.int .i64 0) := by rw [hb1.cell (by simp)]; exact cell_new _ _ _ _ _ rfl
  have y1 : w1.cell? ⟨w.heap.size, 1, none⟩ = some (.int .i64 0) := by rw [hb1.cell (by simp)]; exact cell_new _ _ _ _ _ rfl
  have y2 : w1.cell? ⟨w.heap.size, 2, none⟩ = some (.bool false) := by rw [hb1.cell (by simp)]; exact cell_new _ _ _ _ _ rfl
  have y3 : w1.cell? ⟨w.heap.size, 3, none⟩ = some (.bool false) := by rw [hb1.cell (by simp)]; exact cell_new _ _ _ _ _ rfl
  have y4 : w1.cell? ⟨w.heap.size, 4, none⟩ = some (.pointer none) := by rw [hb1.cell (by simp)]; exact cell_new _ _ _ _ _ rfl
  have y5 : w1.cell? ⟨w.heap.size, 5, none⟩ = some (.int .i64 0) := by rw [hb1.cell (by simp)]; exact cell_new _ _ _ _ _ rfl
  have y6 : w1.cell? ⟨w.heap.size, 6, none⟩ = some (.int .i64 0) := by rw [hb1.cell (by simp)]; exact cell_new _ _ _ _ _ rfl
  have y7 : w1.cell? ⟨w.heap.size, 7, none⟩ = some (.slice none 0 0) := by rw [hb1.cell (by simp)]; exact cell_new _ _ _ _ _ rfl
  have y8 : w1.cell? ⟨w.heap.size, 8, none⟩ = some (.pointer none) := by rw [hb1.cell (by simp)]; exact cell_new _ _ _ _ _ rfl
  clear hb1
  go_wp2_with fail
  have hbv := HB1.out
  refine bodyPost_ret (v := .agg #[.int .i64 1, .int .i64 2, .bool true, .bool false, .pointer none, .int .i64 0, .int .i64 0, .slice none 0 0, .pointer none]) ?_ rfl ⟨rfl, ?_⟩
  · simp [results, Try.results20, go_sem, y0, y1, y2, y3, y4, y5, y6, y7, y8, hs1, hs2]
  · ((repeat (first | (with_reducible exact hbv) | (with_reducible apply Below.setCell) | (with_reducible apply Below.alloc) | (with_reducible apply Below.drew))) <;> first | omega | (simp <;> omega))
set_option maxRecDepth 100000 in
theorem typ_2 (w : World) : Calls Try.prog 20 #[.int .i64 2] w fun e w' => e = .returned (.agg #[.int .i64 1, .int .i64 4, .bool true, .bool false, .pointer none, .int .i64 0, .int .i64 0, .slice none 0 0, .pointer none]) ∧ Below w.heap.size w w' := by
  have b16 : bits .and .i64 2 16 = 0 := by decide
  have b3 : bits .and .i64 2 3 = 2 := by decide
  have b4 : bits .and .i64 2 4 = 0 := by decide
  have b8 : bits .and .i64 2 8 = 0 := by decide
  go_enter Try.func20, Try.ntmps20
  go_wp2_with fail
  (with_reducible refine (intOf_any _ _ _).mono ?_)
  rintro e w1 ⟨rfl, hb1⟩
  have h2 : ∀ j, w1.frozen? ⟨w.heap.size, j, none⟩ = false := fun j => by rw [hb1.frozen (by simp)]; exact frozen_new _ _ _ _ _ rfl
  have HB1 : Hid (Below w.heap.size w w1) := Lib.hid (((Below.refl _ _).alloc (Nat.le_refl _) _).trans (hb1.mono (by simp)))
  have hs1 : w.heap.size < w1.heap.size := by have := hb1.size; simp at this; omega
  have hs2 : w.heap.size ≠ w1.heap.size := by omega
  have y0 : w1.cell? ⟨w.heap.size, 0, none⟩ = some (.int .i64 0) := by rw [hb1.cell (by simp)]; exact cell_new _ _ _ _ _ rfl
  have y1 : w1.cell? ⟨w.heap.size, 1, none⟩ = some (.int .i64 0) := by rw [hb1.cell (by simp)]; exact cell_new _ _ _ _ _ rfl
  have y2 : w1.cell? ⟨w.heap.size, 2, none⟩ = some (.bool false) := by rw [hb1.cell (by simp)]; exact cell_new _ _ _ _ _ rfl
  have y3 : w1.cell? ⟨w.heap.size, 3, none⟩ = some (.bool false) := by rw [hb1.cell (by simp)]; exact cell_new _ _ _ _ _ rfl
  have y4 : w1.cell? ⟨w.heap.size, 4, none⟩ = some (.pointer none) := by rw [hb1.cell (by simp)]; exact cell_new _ _ _ _ _ rfl
  have y5 : w1.cell? ⟨w.heap.size, 5, none⟩ = some (.int .i64 0) := by rw [hb1.cell (by simp)]; exact cell_new _ _ _ _ _ rfl
  have y6 : w1.cell? ⟨w.heap.size, 6, none⟩ = some (.int .i64 0) := by rw [hb1.cell (by simp)]; exact cell_new _ _ _ _ _ rfl
  have y7 : w1.cell? ⟨w.heap.size, 7, none⟩ = some (.slice none 0 0) := by rw [hb1.cell (by simp)]; exact cell_new _ _ _ _ _ rfl
  have y8 : w1.cell? ⟨w.heap.size, 8, none⟩ = some (.pointer none) := by rw [hb1.cell (by simp)]; exact cell_new _ _ _ _ _ rfl
  clear hb1
  go_wp2_with fail
  have hbv := HB1.out
  refine bodyPost_ret (v := .agg #[.int .i64 1, .int .i64 4, .bool true, .bool false, .pointer none, .int .i64 0, .int .i64 0, .slice none 0 0, .pointer none]) ?_ rfl ⟨rfl, ?_⟩
  · simp [results, Try.results20, go_sem, y0, y1, y2, y3, y4, y5, y6, y7, y8, hs1, hs2]
  · ((repeat (first | (with_reducible exact hbv) | (with_reducible apply Below.setCell) | (with_reducible apply Below.alloc) | (with_reducible apply Below.drew))) <;> first | omega | (simp <;> omega))
set_option maxRecDepth 100000 in
theorem typ_3 (w : World) : Calls Try.prog 20 #[.int .i64 3] w fun e w' => e = .returned (.agg #[.int .i64 1, .int .i64 8, .bool true, .bool false, .pointer none, .int .i64 0, .int .i64 0, .slice none 0 0, .pointer none]) ∧ Below w.heap.size w w' := by
  have b16 : bits .and .i64 3 16 = 0 := by decide
  have b3 : bits .and .i64 3 3 = 3 := by decide
  have b4 : bits .and .i64 3 4 = 0 := by decide
  have b8 : bits .and .i64 3 8 = 0 := by decide
  go_enter Try.func20, Try.ntmps20
  go_wp2_with fail
  (with_reducible refine (intOf_any _ _ _).mono ?_)
  rintro e w1 ⟨rfl, hb1⟩
  have h2 : ∀ j, w1.frozen? ⟨w.heap.size, j, none⟩ = false := fun j => by rw [hb1.frozen (by simp)]; exact frozen_new _ _ _ _ _ rfl
  have HB1 : Hid (Below w.heap.size w w1) := Lib.hid (((Below.refl _ _).alloc (Nat.le_refl _) _).trans (hb1.mono (by simp)))
  have hs1 : w.heap.size < w1.heap.size := by have := hb1.size; simp at this; omega
  have hs2 : w.heap.size ≠ w1.heap.size := by omega
  have y0 : w1.cell? ⟨w.heap.size, 0, none⟩ = some (.int .i64 0) := by rw [hb1.cell (by simp)]; exact cell_new _ _ _ _ _ rfl
  have y1 : w1.cell? ⟨w.heap.size, 1, none⟩ = some (.int .i64 0) := by rw [hb1.cell (by simp)]; exact cell_new _ _ _ _ _ rfl
  have y2 : w1.cell? ⟨w.heap.size, 2, none⟩ = some (.bool false) := by rw [hb1.cell (by simp)]; exact cell_new _ _ _ _ _ rfl
  have y3 : w1.cell? ⟨w.heap.size, 3, none⟩ = some (.bool false) := by rw [hb1.cell (by simp)]; exact cell_new _ _ _ _ _ rfl
  have y4 : w1.cell? ⟨w.heap.size, 4, none⟩ = some (.pointer none) := by rw [hb1.cell (by simp)]; exact cell_new _ _ _ _ _ rfl
  have y5 : w1.cell? ⟨w.heap.size, 5, none⟩ = some (.int .i64 0) := by rw [hb1.cell (by simp)]; exact cell_new _ _ _ _ _ rfl
  have y6 : w1.cell? ⟨w.heap.size, 6, none⟩ = some (.int .i64 0) := by rw [hb1.cell (by simp)]; exact cell_new _ _ _ _ _ rfl
  have y7 : w1.cell? ⟨w.heap.size, 7, none⟩ = some (.slice none 0 0) := by rw [hb1.cell (by simp)]; exact cell_new _ _ _ _ _ rfl
  have y8 : w1.cell? ⟨w.heap.size, 8, none⟩ = some (.pointer none) := by rw [hb1.cell (by simp)]; exact cell_new _ _ _ _ _ rfl
  clear hb1
  go_wp2_with fail
  have hbv := HB1.out
  refine bodyPost_ret (v := .agg #[.int .i64 1, .int .i64 8, .bool true, .bool false, .pointer none, .int .i64 0, .int .i64 0, .slice none 0 0, .pointer none]) ?_ rfl ⟨rfl, ?_⟩
  · simp [results, Try.results20, go_sem, y0, y1, y2, y3, y4, y5, y6, y7, y8, hs1, hs2]
  · ((repeat (first | (with_reducible exact hbv) | (with_reducible apply Below.setCell) | (with_reducible apply Below.alloc) | (with_reducible apply Below.drew))) <;> first | omega | (simp <;> omega))
set_option maxRecDepth 100000 in
theorem typ_4 (w : World) : Calls Try.prog 20 #[.int .i64 4] w fun e w' => e = .returned (.agg #[.int .i64 1, .int .i64 1, .bool false, .bool false, .pointer none, .int .i64 0, .int .i64 0, .slice none 0 0, .pointer none]) ∧ Below w.heap.size w w' := by
  have b16 : bits .and .i64 4 16 = 0 := by decide
  have b3 : bits .and .i64 4 3 = 0 := by decide
  have b4 : bits .and .i64 4 4 = 4 := by decide
  have b8 : bits .and .i64 4 8 = 0 := by decide
  go_enter Try.func20, Try.ntmps20
  go_wp2_with fail
  (with_reducible refine (intOf_any _ _ _).mono ?_)
  rintro e w1 ⟨rfl, hb1⟩
  have h2 : ∀ j, w1.frozen? ⟨w.heap.size, j, none⟩ = false := fun j => by rw [hb1.frozen (by simp)]; exact frozen_new _ _ _ _ _ rfl
  have HB1 : Hid (Below w.heap.size w w1) := Lib.hid (((Below.refl _ _).alloc (Nat.le_refl _) _).trans (hb1.mono (by simp)))
  have hs1 : w.heap.size < w1.heap.size := by have := hb1.size; simp at this; omega
  have hs2 : w.heap.size ≠ w1.heap.size := by omega
  have y0 : w1.cell? ⟨w.heap.size, 0, none⟩ = some (.int .i64 0) := by rw [hb1.cell (by simp)]; exact cell_new _ _ _ _ _ rfl
  have y1 : w1.cell? ⟨w.heap.size, 1, none⟩ = some (.int .i64 0) := by rw [hb1.cell (by simp)]; exact cell_new _ _ _ _ _ rfl
  have y2 : w1.cell? ⟨w.heap.size, 2, none⟩ = some (.bool false) := by rw [hb1.cell (by simp)]; exact cell_new _ _ _ _ _ rfl
  have y3 : w1.cell? ⟨w.heap.size, 3, none⟩ = some (.bool false) := by rw [hb1.cell (by simp)]; exact cell_new _ _ _ _ _ rfl
  have y4 : w1.cell? ⟨w.heap.size, 4, none⟩ = some (.pointer none) := by rw [hb1.cell (by simp)]; exact cell_new _ _ _ _ _ rfl
  have y5 : w1.cell? ⟨w.heap.size, 5, none⟩ = some (.int .i64 0) := by rw [hb1.cell (by simp)]; exact cell_new _ _ _ _ _ rfl
  have y6 : w1.cell? ⟨w.heap.size, 6, none⟩ = some (.int .i64 0) := by rw [hb1.cell (by simp)]; exact cell_new _ _ _ _ _ rfl
  have y7 : w1.cell? ⟨w.heap.size, 7, none⟩ = some (.slice none 0 0) := by rw [hb1.cell (by simp)]; exact cell_new _ _ _ _ _ rfl
  have y8 : w1.cell? ⟨w.heap.size, 8, none⟩ = some (.pointer none) := by rw [hb1.cell (by simp)]; exact cell_new _ _ _ _ _ rfl
  clear hb1
  go_wp2_with fail
  have hbv := HB1.out
  refine bodyPost_ret (v := .agg #[.int .i64 1, .int .i64 1, .bool false, .bool false, .pointer none, .int .i64 0, .int .i64 0, .slice none 0 0, .pointer none]) ?_ rfl ⟨rfl, ?_⟩
  · simp [results, Try.results20, go_sem, y0, y1, y2, y3, y4, y5, y6, y7, y8, hs1, hs2]
  · ((repeat (first | (with_reducible exact hbv) | (with_reducible apply Below.setCell) | (with_reducible apply Below.alloc) | (with_reducible apply Below.drew))) <;> first | omega | (simp <;> omega))
set_option maxRecDepth 100000 in
theorem typ_5 (w : World) : Calls Try.prog 20 #[.int .i64 5] w fun e w' => e = .returned (.agg #[.int .i64 1, .int .i64 2, .bool false, .bool false, .pointer none, .int .i64 0, .int .i64 0, .slice none 0 0, .pointer none]) ∧ Below w.heap.size w w' := by
  have b16 : bits .and .i64 5 16 = 0 := by decide
  have b3 : bits .and .i64 5 3 = 1 := by decide
  have b4 : bits .and .i64 5 4 = 4 := by decide
  have b8 : bits .and .i64 5 8 = 0 := by decide
  go_enter Try.func20, Try.ntmps20
  go_wp2_with fail
  (with_reducible refine (intOf_any _ _ _).mono ?_)
  rintro e w1 ⟨rfl, hb1⟩
  have h2 : ∀ j, w1.frozen? ⟨w.heap.size, j, none⟩ = false := fun j => by rw [hb1.frozen (by simp)]; exact frozen_new _ _ _ _ _ rfl
  have HB1 : Hid (Below w.heap.size w w1) := Lib.hid (((Below.refl _ _).alloc (Nat.le_refl _) _).trans (hb1.mono (by simp)))
  have hs1 : w.heap.size < w1.heap.size := by have := hb1.size; simp at this; omega
  have hs2 : w.heap.size ≠ w1.heap.size := by omega
  have y0 : w1.cell? ⟨w.heap.size, 0, none⟩ = some (.int .i64 0) := by rw [hb1.cell (by simp)]; exact cell_new _ _ _ _ _ rfl
  have y1 : w1.cell? ⟨w.heap.size, 1, none⟩ = some (.int .i64 0) := by rw [hb1.cell (by simp)]; exact cell_new _ _ _ _ _ rfl
  have y2 : w1.cell? ⟨w.heap.size, 2, none⟩ = some (.bool false) := by rw [hb1.cell (by simp)]; exact cell_new _ _ _ _ _ rfl
  have y3 : w1.cell? ⟨w.heap.size, 3, none⟩ = some (.bool false) := by rw [hb1.cell (by simp)]; exact cell_new _ _ _ _ _ rfl
  have y4 : w1.cell? ⟨w.heap.size, 4, none⟩ = some (.pointer none) := by rw [hb1.cell (by simp)]; exact cell_new _ _ _ _ _ rfl
  have y5 : w1.cell? ⟨w.heap.size, 5, none⟩ = some (.int .i64 0) := by rw [hb1.cell (by simp)]; exact cell_new _ _ _ _ _ rfl
  have y6 : w1.cell? ⟨w.heap.size, 6, none⟩ = some (.int .i64 0) := by rw [hb1.cell (by simp)]; exact cell_new _ _ _ _ _ rfl
  have y7 : w1.cell? ⟨w.heap.size, 7, none⟩ = some (.slice none 0 0) := by rw [hb1.cell (by simp)]; exact cell_new _ _ _ _ _ rfl
  have y8 : w1.cell? ⟨w.heap.size, 8, none⟩ = some (.pointer none) := by rw [hb1.cell (by simp)]; exact cell_new _ _ _ _ _ rfl
  clear hb1
  go_wp2_with fail
  have hbv := HB1.out
  refine bodyPost_ret (v := .agg #[.int .i64 1, .int .i64 2, .bool false, .bool false, .pointer none, .int .i64 0, .int .i64 0, .slice none 0 0, .pointer none]) ?_ rfl ⟨rfl, ?_⟩
  · simp [results, Try.results20, go_sem, y0, y1, y2, y3, y4, y5, y6, y7, y8, hs1, hs2]
  · ((repeat (first | (with_reducible exact hbv) | (with_reducible apply Below.setCell) | (with_reducible apply Below.alloc) | (with_reducible apply Below.drew))) <;> first | omega | (simp <;> omega))
set_option maxRecDepth 100000 in
theorem typ_6 (w : World) : Calls Try.prog 20 #[.int .i64 6] w fun e w' => e = .returned (.agg #[.int .i64 1, .int .i64 4, .bool false, .bool false, .pointer none, .int .i64 0, .int .i64 0, .slice none 0 0, .pointer none]) ∧ Below w.heap.size w w' := by
  have b16 : bits .and .i64 6 16 = 0 := by decide
  have b3 : bits .and .i64 6 3 = 2 := by decide
  have b4 : bits .and .i64 6 4 = 4 := by decide
  have b8 : bits .and .i64 6 8 = 0 := by decide
  go_enter Try.func20, Try.ntmps20
  go_wp2_with fail
  (with_reducible refine (intOf_any _ _ _).mono ?_)
  rintro e w1 ⟨rfl, hb1⟩
  have h2 : ∀ j, w1.frozen? ⟨w.heap.size, j, none⟩ = false := fun j => by rw [hb1.frozen (by simp)]; exact frozen_new _ _ _ _ _ rfl
  have HB1 : Hid (Below w.heap.size w w1) := Lib.hid (((Below.refl _ _).alloc (Nat.le_refl _) _).trans (hb1.mono (by simp)))
  have hs1 : w.heap.size < w1.heap.size := by have := hb1.size; simp at this; omega
  have hs2 : w.heap.size ≠ w1.heap.size := by omega
  have y0 : w1.cell? ⟨w.heap.size, 0, none⟩ = some (.int .i64 0) := by rw [hb1.cell (by simp)]; exact cell_new _ _ _ _ _ rfl
  have y1 : w1.cell? ⟨w.heap.size, 1, none⟩ = some (.int .i64 0) := by rw [hb1.cell (by simp)]; exact cell_new _ _ _ _ _ rfl
  have y2 : w1.cell? ⟨w.heap.size, 2, none⟩ = some (.bool false) := by rw [hb1.cell (by simp)]; exact cell_new _ _ _ _ _ rfl
  have y3 : w1.cell? ⟨w.heap.size, 3, none⟩ = some (.bool false) := by rw [hb1.cell (by simp)]; exact cell_new _ _ _ _ _ rfl
  have y4 : w1.cell? ⟨w.heap.size, 4, none⟩ = some (.pointer none) := by rw [hb1.cell (by simp)]; exact cell_new _ _ _ _ _ rfl
  have y5 : w1.cell? ⟨w.heap.size, 5, none⟩ = some (.int .i64 0) := by rw [hb1.cell (by simp)]; exact cell_new _ _ _ _ _ rfl
  have y6 : w1.cell? ⟨w.heap.size, 6, none⟩ = some (.int .i64 0) := by rw [hb1.cell (by simp)]; exact cell_new _ _ _ _ _ rfl
  have y7 : w1.cell? ⟨w.heap.size, 7, none⟩ = some (.slice none 0 0) := by rw [hb1.cell (by simp)]; exact cell_new _ _ _ _ _ rfl
  have y8 : w1.cell? ⟨w.heap.size, 8, none⟩ = some (.pointer none) := by rw [hb1.cell (by simp)]; exact cell_new _ _ _ _ _ rfl
  clear hb1
  go_wp2_with fail
  have hbv := HB1.out
  refine bodyPost_ret (v := .agg #[.int .i64 1, .int .i64 4, .bool false, .bool false, .pointer none, .int .i64 0, .int .i64 0, .slice none 0 0, .pointer none]) ?_ rfl ⟨rfl, ?_⟩
  · simp [results, Try.results20, go_sem, y0, y1, y2, y3, y4, y5, y6, y7, y8, hs1, hs2]
  · ((repeat (first | (with_reducible exact hbv) | (with_reducible apply Below.setCell) | (with_reducible apply Below.alloc) | (with_reducible apply Below.drew))) <;> first | omega | (simp <;> omega))
set_option maxRecDepth 100000 in
theorem typ_7 (w : World) : Calls Try.prog 20 #[.int .i64 7] w fun e w' => e = .returned (.agg #[.int .i64 1, .int .i64 8, .bool false, .bool false, .pointer none, .int .i64 0, .int .i64 0, .slice none 0 0, .pointer none]) ∧ Below w.heap.size w w' := by
  have b16 : bits .and .i64 7 16 = 0 := by decide
  have b3 : bits .and .i64 7 3 = 3 := by decide
  have b4 : bits .and .i64 7 4 = 4 := by decide
  have b8 : bits .and .i64 7 8 = 0 := by decide
  go_enter Try.func20, Try.ntmps20
  go_wp2_with fail
  (with_reducible refine (intOf_any _ _ _).mono ?_)
  rintro e w1 ⟨rfl, hb1⟩
  have h2 : ∀ j, w1.frozen? ⟨w.heap.size, j, none⟩ = false := fun j => by rw [hb1.frozen (by simp)]; exact frozen_new _ _ _ _ _ rfl
  have HB1 : Hid (Below w.heap.size w w1) := Lib.hid (((Below.refl _ _).alloc (Nat.le_refl _) _).trans (hb1.mono (by simp)))
  have hs1 : w.heap.size < w1.heap.size := by have := hb1.size; simp at this; omega
  have hs2 : w.heap.size ≠ w1.heap.size := by omega
  have y0 : w1.cell? ⟨w.heap.size, 0, none⟩ = some (.int .i64 0) := by rw [hb1.cell (by simp)]; exact cell_new _ _ _ _ _ rfl
  have y1 : w1.cell? ⟨w.heap.size, 1, none⟩ = some (.int .i64 0) := by rw [hb1.cell (by simp)]; exact cell_new _ _ _ _ _ rfl
  have y2 : w1.cell? ⟨w.heap.size, 2, none⟩ = some (.bool false) := by rw [hb1.cell (by simp)]; exact cell_new _ _ _ _ _ rfl
  have y3 : w1.cell? ⟨w.heap.size, 3, none⟩ = some (.bool false) := by rw [hb1.cell (by simp)]; exact cell_new _ _ _ _ _ rfl
  have y4 : w1.cell? ⟨w.heap.size, 4, none⟩ = some (.pointer none) := by rw [hb1.cell (by simp)]; exact cell_new _ _ _ _ _ rfl
  have y5 : w1.cell? ⟨w.heap.size, 5, none⟩ = some (.int .i64 0) := by rw [hb1.cell (by simp)]; exact cell_new _ _ _ _ _ rfl
  have y6 : w1.cell? ⟨w.heap.size, 6, none⟩ = some (.int .i64 0) := by rw [hb1.cell (by simp)]; exact cell_new _ _ _ _ _ rfl
  have y7 : w1.cell? ⟨w.heap.size, 7, none⟩ = some (.slice none 0 0) := by rw [hb1.cell (by simp)]; exact cell_new _ _ _ _ _ rfl
  have y8 : w1.cell? ⟨w.heap.size, 8, none⟩ = some (.pointer none) := by rw [hb1.cell (by simp)]; exact cell_new _ _ _ _ _ rfl
  clear hb1
  go_wp2_with fail
  have hbv := HB1.out
  refine bodyPost_ret (v := .agg #[.int .i64 1, .int .i64 8, .bool false, .bool false, .pointer none, .int .i64 0, .int .i64 0, .slice none 0 0, .pointer none]) ?_ rfl ⟨rfl, ?_⟩
  · simp [results, Try.results20, go_sem, y0, y1, y2, y3, y4, y5, y6, y7, y8, hs1, hs2]
  · ((repeat (first | (with_reducible exact hbv) | (with_reducible apply Below.setCell) | (with_reducible apply Below.alloc) | (with_reducible apply Below.drew))) <;> first | omega | (simp <;> omega))
set_option maxRecDepth 100000 in
theorem typ_8 (w : World) : Calls Try.prog 20 #[.int .i64 8] w fun e w' => e = .returned (.agg #[.int .i64 1, .int .i64 1, .bool true, .bool true, .pointer none, .int .i64 0, .int .i64 0, .slice none 0 0, .pointer none]) ∧ Below w.heap.size w w' := by
  have b16 : bits .and .i64 8 16 = 0 := by decide
  have b3 : bits .and .i64 8 3 = 0 := by decide
  have b4 : bits .and .i64 8 4 = 0 := by decide
  have b8 : bits .and .i64 8 8 = 8 := by decide
  go_enter Try.func20, Try.ntmps20
  go_wp2_with fail
  (with_reducible refine (intOf_any _ _ _).mono ?_)
  rintro e w1 ⟨rfl, hb1⟩
  have h2 : ∀ j, w1.frozen? ⟨w.heap.size, j, none⟩ = false := fun j => by rw [hb1.frozen (by simp)]; exact frozen_new _ _ _ _ _ rfl
  have HB1 : Hid (Below w.heap.size w w1) := Lib.hid (((Below.refl _ _).alloc (Nat.le_refl _) _).trans (hb1.mono (by simp)))
  have hs1 : w.heap.size < w1.heap.size := by have := hb1.size; simp at this; omega
  have hs2 : w.heap.size ≠ w1.heap.size := by omega
  have y0 : w1.cell? ⟨w.heap.size, 0, none⟩ = some (.int .i64 0) := by rw [hb1.cell (by simp)]; exact cell_new _ _ _ _ _ rfl
  have y1 : w1.cell? ⟨w.heap.size, 1, none⟩ = some (.int .i64 0) := by rw [hb1.cell (by simp)]; exact cell_new _ _ _ _ _ rfl
  have y2 : w1.cell? ⟨w.heap.size, 2, none⟩ = some (.bool false) := by rw [hb1.cell (by simp)]; exact cell_new _ _ _ _ _ rfl
  have y3 : w1.cell? ⟨w.heap.size, 3, none⟩ = some (.bool false) := by rw [hb1.cell (by simp)]; exact cell_new _ _ _ _ _ rfl
  have y4 : w1.cell? ⟨w.heap.size, 4, none⟩ = some (.pointer none) := by rw [hb1.cell (by simp)]; exact cell_new _ _ _ _ _ rfl
  have y5 : w1.cell? ⟨w.heap.size, 5, none⟩ = some (.int .i64 0) := by rw [hb1.cell (by simp)]; exact cell_new _ _ _ _ _ rfl
  have y6 : w1.cell? ⟨w.heap.size, 6, none⟩ = some (.int .i64 0) := by rw [hb1.cell (by simp)]; exact cell_new _ _ _ _ _ rfl
  have y7 : w1.cell? ⟨w.heap.size, 7, none⟩ = some (.slice none 0 0) := by rw [hb1.cell (by simp)]; exact cell_new _ _ _ _ _ rfl
  have y8 : w1.cell? ⟨w.heap.size, 8, none⟩ = some (.pointer none) := by rw [hb1.cell (by simp)]; exact cell_new _ _ _ _ _ rfl
  clear hb1
  go_wp2_with fail
  have hbv := HB1.out
  refine bodyPost_ret (v := .agg #[.int .i64 1, .int .i64 1, .bool true, .bool true, .pointer none, .int .i64 0, .int .i64 0, .slice none 0 0, .pointer none]) ?_ rfl ⟨rfl, ?_⟩
  · simp [results, Try.results20, go_sem, y0, y1, y2, y3, y4, y5, y6, y7, y8, hs1, hs2]
  · ((repeat (first | (with_reducible exact hbv) | (with_reducible apply Below.setCell) | (with_reducible apply Below.alloc) | (with_reducible apply Below.drew))) <;> first | omega | (simp <;> omega))
set_option maxRecDepth 100000 in
theorem typ_9 (w : World) : Calls Try.prog 20 #[.int .i64 9] w fun e w' => e = .returned (.agg #[.int .i64 1, .int .i64 2, .bool true, .bool true, .pointer none, .int .i64 0, .int .i64 0, .slice none 0 0, .pointer none]) ∧ Below w.heap.size w w' := by
  have b16 : bits .and .i64 9 16 = 0 := by decide
  have b3 : bits .and .i64 9 3 = 1 := by decide
  have b4 : bits .and .i64 9 4 = 0 := by decide
  have b8 : bits .and .i64 9 8 = 8 := by decide
  go_enter Try.func20, Try.ntmps20
  go_wp2_with fail
  (with_reducible refine (intOf_any _ _ _).mono ?_)
  rintro e w1 ⟨rfl, hb1⟩
  have h2 : ∀ j, w1.frozen? ⟨w.heap.size, j, none⟩ = false := fun j => by rw [hb1.frozen (by simp)]; exact frozen_new _ _ _ _ _ rfl
  have HB1 : Hid (Below w.heap.size w w1) := Lib.hid (((Below.refl _ _).alloc (Nat.le_refl _) _).trans (hb1.mono (by simp)))
  have hs1 : w.heap.size < w1.heap.size := by have := hb1.size; simp at this; omega
  have hs2 : w.heap.size ≠ w1.heap.size := by omega
  have y0 : w1.cell? ⟨w.heap.size, 0, none⟩ = some (.int .i64 0) := by rw [hb1.cell (by simp)]; exact cell_new _ _ _ _ _ rfl
  have y1 : w1.cell? ⟨w.heap.size, 1, none⟩ = some (.int .i64 0) := by rw [hb1.cell (by simp)]; exact cell_new _ _ _ _ _ rfl
  have y2 : w1.cell? ⟨w.heap.size, 2, none⟩ = some (.bool false) := by rw [hb1.cell (by simp)]; exact cell_new _ _ _ _ _ rfl
  have y3 : w1.cell? ⟨w.heap.size, 3, none⟩ = some (.bool false) := by rw [hb1.cell (by simp)]; exact cell_new _ _ _ _ _ rfl
  have y4 : w1.cell? ⟨w.heap.size, 4, none⟩ = some (.pointer none) := by rw [hb1.cell (by simp)]; exact cell_new _ _ _ _ _ rfl
  have y5 : w1.cell? ⟨w.heap.size, 5, none⟩ = some (.int .i64 0) := by rw [hb1.cell (by simp)]; exact cell_new _ _ _ _ _ rfl
  have y6 : w1.cell? ⟨w.heap.size, 6, none⟩ = some (.int .i64 0) := by rw [hb1.cell (by simp)]; exact cell_new _ _ _ _ _ rfl
  have y7 : w1.cell? ⟨w.heap.size, 7, none⟩ = some (.slice none 0 0) := by rw [hb1.cell (by simp)]; exact cell_new _ _ _ _ _ rfl
  have y8 : w1.cell? ⟨w.heap.size, 8, none⟩ = some (.pointer none) := by rw [hb1.cell (by simp)]; exact cell_new _ _ _ _ _ rfl
  clear hb1
  go_wp2_with fail
  have hbv := HB1.out
  refine bodyPost_ret (v := .agg #[.int .i64 1, .int .i64 2, .bool true, .bool true, .pointer none, .int .i64 0, .int .i64 0, .slice none 0 0, .pointer none]) ?_ rfl ⟨rfl, ?_⟩
  · simp [results, Try.results20, go_sem, y0, y1, y2, y3, y4, y5, y6, y7, y8, hs1, hs2]
  · ((repeat (first | (with_reducible exact hbv) | (with_reducible apply Below.setCell) | (with_reducible apply Below.alloc) | (with_reducible apply Below.drew))) <;> first | omega | (simp <;> omega))
set_option maxRecDepth 100000 in
theorem typ_10 (w : World) : Calls Try.prog 20 #[.int .i64 10] w fun e w' => e = .returned (.agg #[.int .i64 1, .int .i64 4, .bool true, .bool true, .pointer none, .int .i64 0, .int .i64 0, .slice none 0 0, .pointer none]) ∧ Below w.heap.size w w' := by
  have b16 : bits .and .i64 10 16 = 0 := by decide
  have b3 : bits .and .i64 10 3 = 2 := by decide
  have b4 : bits .and .i64 10 4 = 0 := by decide
  have b8 : bits .and .i64 10 8 = 8 := by decide
  go_enter Try.func20, Try.ntmps20
  go_wp2_with fail
  (with_reducible refine (intOf_any _ _ _).mono ?_)
  rintro e w1 ⟨rfl, hb1⟩
  have h2 : ∀ j, w1.frozen? ⟨w.heap.size, j, none⟩ = false := fun j => by rw [hb1.frozen (by simp)]; exact frozen_new _ _ _ _ _ rfl
  have HB1 : Hid (Below w.heap.size w w1) := Lib.hid (((Below.refl _ _).alloc (Nat.le_refl _) _).trans (hb1.mono (by simp)))
  have hs1 : w.heap.size < w1.heap.size := by have := hb1.size; simp at this; omega
  have hs2 : w.heap.size ≠ w1.heap.size := by omega
  have y0 : w1.cell? ⟨w.heap.size, 0, none⟩ = some (.int .i64 0) := by rw [hb1.cell (by simp)]; exact cell_new _ _ _ _ _ rfl
  have y1 : w1.cell? ⟨w.heap.size, 1, none⟩ = some (.int .i64 0) := by rw [hb1.cell (by simp)]; exact cell_new _ _ _ _ _ rfl
  have y2 : w1.cell? ⟨w.heap.size, 2, none⟩ = some (.bool false) := by rw [hb1.cell (by simp)]; exact cell_new _ _ _ _ _ rfl
  have y3 : w1.cell? ⟨w.heap.size, 3, none⟩ = some (.bool false) := by rw [hb1.cell (by simp)]; exact cell_new _ _ _ _ _ rfl
  have y4 : w1.cell? ⟨w.heap.size, 4, none⟩ = some (.pointer none) := by rw [hb1.cell (by simp)]; exact cell_new _ _ _ _ _ rfl
  have y5 : w1.cell? ⟨w.heap.size, 5, none⟩ = some (.int .i64 0) := by rw [hb1.cell (by simp)]; exact cell_new _ _ _ _ _ rfl
  have y6 : w1.cell? ⟨w.heap.size, 6, none⟩ = some (.int .i64 0) := by rw [hb1.cell (by simp)]; exact cell_new _ _ _ _ _ rfl
  have y7 : w1.cell? ⟨w.heap.size, 7, none⟩ = some (.slice none 0 0) := by rw [hb1.cell (by simp)]; exact cell_new _ _ _ _ _ rfl
  have y8 : w1.cell? ⟨w.heap.size, 8, none⟩ = some (.pointer none) := by rw [hb1.cell (by simp)]; exact cell_new _ _ _ _ _ rfl
  clear hb1
  go_wp2_with fail
  have hbv := HB1.out
  refine bodyPost_ret (v := .agg #[.int .i64 1, .int .i64 4, .bool true, .bool true, .pointer none, .int .i64 0, .int .i64 0, .slice none 0 0, .pointer none]) ?_ rfl ⟨rfl, ?_⟩
  · simp [results, Try.results20, go_sem, y0, y1, y2, y3, y4, y5, y6, y7, y8, hs1, hs2]
  · ((repeat (first | (with_reducible exact hbv) | (with_reducible apply Below.setCell) | (with_reducible apply Below.alloc) | (with_reducible apply Below.drew))) <;> first | omega | (simp <;> omega))
set_option maxRecDepth 100000 in
theorem typ_11 (w : World) : Calls Try.prog 20 #[.int .i64 11] w fun e w' => e = .returned (.agg #[.int .i64 1, .int .i64 8, .bool true, .bool true, .pointer none, .int .i64 0, .int .i64 0, .slice none 0 0, .pointer none]) ∧ Below w.heap.size w w' := by
  have b16 : bits .and .i64 11 16 = 0 := by decide
  have b3 : bits .and .i64 11 3 = 3 := by decide
  have b4 : bits .and .i64 11 4 = 0 := by decide
  have b8 : bits .and .i64 11 8 = 8 := by decide
  go_enter Try.func20, Try.ntmps20
  go_wp2_with fail
  (with_reducible refine (intOf_any _ _ _).mono ?_)
  rintro e w1 ⟨rfl, hb1⟩
  have h2 : ∀ j, w1.frozen? ⟨w.heap.size, j, none⟩ = false := fun j => by rw [hb1.frozen (by simp)]; exact frozen_new _ _ _ _ _ rfl
  have HB1 : Hid (Below w.heap.size w w1) := Lib.hid (((Below.refl _ _).alloc (Nat.le_refl _) _).trans (hb1.mono (by simp)))
  have hs1 : w.heap.size < w1.heap.size := by have := hb1.size; simp at this; omega
  have hs2 : w.heap.size ≠ w1.heap.size := by omega
  have y0 : w1.cell? ⟨w.heap.size, 0, none⟩ = some (.int .i64 0) := by rw [hb1.cell (by simp)]; exact cell_new _ _ _ _ _ rfl
  have y1 : w1.cell? ⟨w.heap.size, 1, none⟩ = some (.int .i64 0) := by rw [hb1.cell (by simp)]; exact cell_new _ _ _ _ _ rfl
  have y2 : w1.cell? ⟨w.heap.size, 2, none⟩ = some (.bool false) := by rw [hb1.cell (by simp)]; exact cell_new _ _ _ _ _ rfl
  have y3 : w1.cell? ⟨w.heap.size, 3, none⟩ = some (.bool false) := by rw [hb1.cell (by simp)]; exact cell_new _ _ _ _ _ rfl
  have y4 : w1.cell? ⟨w.heap.size, 4, none⟩ = some (.pointer none) := by rw [hb1.cell (by simp)]; exact cell_new _ _ _ _ _ rfl
  have y5 : w1.cell? ⟨w.heap.size, 5, none⟩ = some (.int .i64 0) := by rw [hb1.cell (by simp)]; exact cell_new _ _ _ _ _ rfl
  have y6 : w1.cell? ⟨w.heap.size, 6, none⟩ = some (.int .i64 0) := by rw [hb1.cell (by simp)]; exact cell_new _ _ _ _ _ rfl
  have y7 : w1.cell? ⟨w.heap.size, 7, none⟩ = some (.slice none 0 0) := by rw [hb1.cell (by simp)]; exact cell_new _ _ _ _ _ rfl
  have y8 : w1.cell? ⟨w.heap.size, 8, none⟩ = some (.pointer none) := by rw [hb1.cell (by simp)]; exact cell_new _ _ _ _ _ rfl
  clear hb1
  go_wp2_with fail
  have hbv := HB1.out
  refine bodyPost_ret (v := .agg #[.int .i64 1, .int .i64 8, .bool true, .bool true, .pointer none, .int .i64 0, .int .i64 0, .slice none 0 0, .pointer none]) ?_ rfl ⟨rfl, ?_⟩
  · simp [results, Try.results20, go_sem, y0, y1, y2, y3, y4, y5, y6, y7, y8, hs1, hs2]
  · ((repeat (first | (with_reducible exact hbv) | (with_reducible apply Below.setCell) | (with_reducible apply Below.alloc) | (with_reducible apply Below.drew))) <;> first | omega | (simp <;> omega))
set_option maxRecDepth 100000 in
theorem typ_12 (w : World) : Calls Try.prog 20 #[.int .i64 12] w fun e w' => e = .returned (.agg #[.int .i64 1, .int .i64 1, .bool false, .bool true, .pointer none, .int .i64 0, .int .i64 0, .slice none 0 0, .pointer none]) ∧ Below w.heap.size w w' := by
  have b16 : bits .and .i64 12 16 = 0 := by decide
  have b3 : bits .and .i64 12 3 = 0 := by decide
  have b4 : bits .and .i64 12 4 = 4 := by decide
  have b8 : bits .and .i64 12 8 = 8 := by decide
  go_enter Try.func20, Try.ntmps20
  go_wp2_with fail
  (with_reducible refine (intOf_any _ _ _).mono ?_)
  rintro e w1 ⟨rfl, hb1⟩
  have h2 : ∀ j, w1.frozen? ⟨w.heap.size, j, none⟩ = false := fun j => by rw [hb1.frozen (by simp)]; exact frozen_new _ _ _ _ _ rfl
  have HB1 : Hid (Below w.heap.size w w1) := Lib.hid (((Below.refl _ _).alloc (Nat.le_refl _) _).trans (hb1.mono (by simp)))
  have hs1 : w.heap.size < w1.heap.size := by have := hb1.size; simp at this; omega
  have hs2 : w.heap.size ≠ w1.heap.size := by omega
  have y0 : w1.cell? ⟨w.heap.size, 0, none⟩ = some (.int .i64 0) := by rw [hb1.cell (by simp)]; exact cell_new _ _ _ _ _ rfl
  have y1 : w1.cell? ⟨w.heap.size, 1, none⟩ = some (.int .i64 0) := by rw [hb1.cell (by simp)]; exact cell_new _ _ _ _ _ rfl
  have y2 : w1.cell? ⟨w.heap.size, 2, none⟩ = some (.bool false) := by rw [hb1.cell (by simp)]; exact cell_new _ _ _ _ _ rfl
  have y3 : w1.cell? ⟨w.heap.size, 3, none⟩ = some (.bool false) := by rw [hb1.cell (by simp)]; exact cell_new _ _ _ _ _ rfl
  have y4 : w1.cell? ⟨w.heap.size, 4, none⟩ = some (.pointer none) := by rw [hb1.cell (by simp)]; exact cell_new _ _ _ _ _ rfl
  have y5 : w1.cell? ⟨w.heap.size, 5, none⟩ = some (.int .i64 0) := by rw [hb1.cell (by simp)]; exact cell_new _ _ _ _ _ rfl
  have y6 : w1.cell? ⟨w.heap.size, 6, none⟩ = some (.int .i64 0) := by rw [hb1.cell (by simp)]; exact cell_new _ _ _ _ _ rfl
  have y7 : w1.cell? ⟨w.heap.size, 7, none⟩ = some (.slice none 0 0) := by rw [hb1.cell (by simp)]; exact cell_new _ _ _ _ _ rfl
  have y8 : w1.cell? ⟨w.heap.size, 8, none⟩ = some (.pointer none) := by rw [hb1.cell (by simp)]; exact cell_new _ _ _ _ _ rfl
  clear hb1
  go_wp2_with fail
  have hbv := HB1.out
  refine bodyPost_ret (v := .agg #[.int .i64 1, .int .i64 1, .bool false, .bool true, .pointer none, .int .i64 0, .int .i64 0, .slice none 0 0, .pointer none]) ?_ rfl ⟨rfl, ?_⟩
  · simp [results, Try.results20, go_sem, y0, y1, y2, y3, y4, y5, y6, y7, y8, hs1, hs2]
  · ((repeat (first | (with_reducible exact hbv) | (with_reducible apply Below.setCell) | (with_reducible apply Below.alloc) | (with_reducible apply Below.drew))) <;> first | omega | (simp <;> omega))
set_option maxRecDepth 100000 in
theorem typ_13 (w : World) : Calls Try.prog 20 #[.int .i64 13] w fun e w' => e = .returned (.agg #[.int .i64 1, .int .i64 2, .bool false, .bool true, .pointer none, .int .i64 0, .int .i64 0, .slice none 0 0, .pointer none]) ∧ Below w.heap.size w w' := by
  have b16 : bits .and .i64 13 16 = 0 := by decide
  have b3 : bits .and .i64 13 3 = 1 := by decide
  have b4 : bits .and .i64 13 4 = 4 := by decide
  have b8 : bits .and .i64 13 8 = 8 := by decide
  go_enter Try.func20, Try.ntmps20
  go_wp2_with fail
  (with_reducible refine (intOf_any _ _ _).mono ?_)
  rintro e w1 ⟨rfl, hb1⟩
  have h2 : ∀ j, w1.frozen? ⟨w.heap.size, j, none⟩ = false := fun j => by rw [hb1.frozen (by simp)]; exact frozen_new _ _ _ _ _ rfl
  have HB1 : Hid (Below w.heap.size w w1) := Lib.hid (((Below.refl _ _).alloc (Nat.le_refl _) _).trans (hb1.mono (by simp)))
  have hs1 : w.heap.size < w1.heap.size := by have := hb1.size; simp at this; omega
  have hs2 : w.heap.size ≠ w1.heap.size := by omega
  have y0 : w1.cell? ⟨w.heap.size, 0, none⟩ = some (.int .i64 0) := by rw [hb1.cell (by simp)]; exact cell_new _ _ _ _ _ rfl
  have y1 : w1.cell? ⟨w.heap.size, 1, none⟩ = some (.int .i64 0) := by rw [hb1.cell (by simp)]; exact cell_new _ _ _ _ _ rfl
  have y2 : w1.cell? ⟨w.heap.size, 2, none⟩ = some (.bool false) := by rw [hb1.cell (by simp)]; exact cell_new _ _ _ _ _ rfl
  have y3 : w1.cell? ⟨w.heap.size, 3, none⟩ = some (.bool false) := by rw [hb1.cell (by simp)]; exact cell_new _ _ _ _ _ rfl
  have y4 : w1.cell? ⟨w.heap.size, 4, none⟩ = some (.pointer none) := by rw [hb1.cell (by simp)]; exact cell_new _ _ _ _ _ rfl
  have y5 : w1.cell? ⟨w.heap.size, 5, none⟩ = some (.int .i64 0) := by rw [hb1.cell (by simp)]; exact cell_new _ _ _ _ _ rfl
  have y6 : w1.cell? ⟨w.heap.size, 6, none⟩ = some (.int .i64 0) := by rw [hb1.cell (by simp)]; exact cell_new _ _ _ _ _ rfl
  have y7 : w1.cell? ⟨w.heap.size, 7, none⟩ = some (.slice none 0 0) := by rw [hb1.cell (by simp)]; exact cell_new _ _ _ _ _ rfl
  have y8 : w1.cell? ⟨w.heap.size, 8, none⟩ = some (.pointer none) := by rw [hb1.cell (by simp)]; exact cell_new _ _ _ _ _ rfl
  clear hb1
  go_wp2_with fail
  have hbv := HB1.out
  refine bodyPost_ret (v := .agg #[.int .i64 1, .int .i64 2, .bool false, .bool true, .pointer none, .int .i64 0, .int .i64 0, .slice none 0 0, .pointer none]) ?_ rfl ⟨rfl, ?_⟩
  · simp [results, Try.results20, go_sem, y0, y1, y2, y3, y4, y5, y6, y7, y8, hs1, hs2]
  · ((repeat (first | (with_reducible exact hbv) | (with_reducible apply Below.setCell) | (with_reducible apply Below.alloc) | (with_reducible apply Below.drew))) <;> first | omega | (simp <;> omega))
set_option maxRecDepth 100000 in
theorem typ_14 (w : World) : Calls Try.prog 20 #[.int .i64 14] w fun e w' => e = .returned (.agg #[.int .i64 1, .int .i64 4, .bool false, .bool true, .pointer none, .int .i64 0, .int .i64 0, .slice none 0 0, .pointer none]) ∧ Below w.heap.size w w' := by
  have b16 : bits .and .i64 14 16 = 0 := by decide
  have b3 : bits .and .i64 14 3 = 2 := by decide
  have b4 : bits .and .i64 14 4 = 4 := by decide
  have b8 : bits .and .i64 14 8 = 8 := by decide
  go_enter Try.func20, Try.ntmps20
  go_wp2_with fail
  (with_reducible refine (intOf_any _ _ _).mono ?_)
  rintro e w1 ⟨rfl, hb1⟩
  have h2 : ∀ j, w1.frozen? ⟨w.heap.size, j, none⟩ = false := fun j => by rw [hb1.frozen (by simp)]; exact frozen_new _ _ _ _ _ rfl
  have HB1 : Hid (Below w.heap.size w w1) := Lib.hid (((Below.refl _ _).alloc (Nat.le_refl _) _).trans (hb1.mono (by simp)))
  have hs1 : w.heap.size < w1.heap.size := by have := hb1.size; simp at this; omega
  have hs2 : w.heap.size ≠ w1.heap.size := by omega
  have y0 : w1.cell? ⟨w.heap.size, 0, none⟩ = some (.int .i64 0) := by rw [hb1.cell (by simp)]; exact cell_new _ _ _ _ _ rfl
  have y1 : w1.cell? ⟨w.heap.size, 1, none⟩ = some (.int .i64 0) := by rw [hb1.cell (by simp)]; exact cell_new _ _ _ _ _ rfl
  have y2 : w1.cell? ⟨w.heap.size, 2, none⟩ = some (.bool false) := by rw [hb1.cell (by simp)]; exact cell_new _ _ _ _ _ rfl
  have y3 : w1.cell? ⟨w.heap.size, 3, none⟩ = some (.bool false) := by rw [hb1.cell (by simp)]; exact cell_new _ _ _ _ _ rfl
  have y4 : w1.cell? ⟨w.heap.size, 4, none⟩ = some (.pointer none) := by rw [hb1.cell (by simp)]; exact cell_new _ _ _ _ _ rfl
  have y5 : w1.cell? ⟨w.heap.size, 5, none⟩ = some (.int .i64 0) := by rw [hb1.cell (by simp)]; exact cell_new _ _ _ _ _ rfl
  have y6 : w1.cell? ⟨w.heap.size, 6, none⟩ = some (.int .i64 0) := by rw [hb1.cell (by simp)]; exact cell_new _ _ _ _ _ rfl
  have y7 : w1.cell? ⟨w.heap.size, 7, none⟩ = some (.slice none 0 0) := by rw [hb1.cell (by simp)]; exact cell_new _ _ _ _ _ rfl
  have y8 : w1.cell? ⟨w.heap.size, 8, none⟩ = some (.pointer none) := by rw [hb1.cell (by simp)]; exact cell_new _ _ _ _ _ rfl
  clear hb1
  go_wp2_with fail
  have hbv := HB1.out
  refine bodyPost_ret (v := .agg #[.int .i64 1, .int .i64 4, .bool false, .bool true, .pointer none, .int .i64 0, .int .i64 0, .slice none 0 0, .pointer none]) ?_ rfl ⟨rfl, ?_⟩
  · simp [results, Try.results20, go_sem, y0, y1, y2, y3, y4, y5, y6, y7, y8, hs1, hs2]
  · ((repeat (first | (with_reducible exact hbv) | (with_reducible apply Below.setCell) | (with_reducible apply Below.alloc) | (with_reducible apply Below.drew))) <;> first | omega | (simp <;> omega))
set_option maxRecDepth 100000 in
theorem typ_15 (w : World) : Calls Try.prog 20 #[.int .i64 15] w fun e w' => e = .returned (.agg #[.int .i64 1, .int .i64 8, .bool false, .bool true, .pointer none, .int .i64 0, .int .i64 0, .slice none 0 0, .pointer none]) ∧ Below w.heap.size w w' := by
  have b16 : bits .and .i64 15 16 = 0 := by decide
  have b3 : bits .and .i64 15 3 = 3 := by decide
  have b4 : bits .and .i64 15 4 = 4 := by decide
  have b8 : bits .and .i64 15 8 = 8 := by decide
  go_enter Try.func20, Try.ntmps20
  go_wp2_with fail
  (with_reducible refine (intOf_any _ _ _).mono ?_)
  rintro e w1 ⟨rfl, hb1⟩
  have h2 : ∀ j, w1.frozen? ⟨w.heap.size, j, none⟩ = false := fun j => by rw [hb1.frozen (by simp)]; exact frozen_new _ _ _ _ _ rfl
  have HB1 : Hid (Below w.heap.size w w1) := Lib.hid (((Below.refl _ _).alloc (Nat.le_refl _) _).trans (hb1.mono (by simp)))
  have hs1 : w.heap.size < w1.heap.size := by have := hb1.size; simp at this; omega
  have hs2 : w.heap.size ≠ w1.heap.size := by omega
  have y0 : w1.cell? ⟨w.heap.size, 0, none⟩ = some (.int .i64 0) := by rw [hb1.cell (by simp)]; exact cell_new _ _ _ _ _ rfl
  have y1 : w1.cell? ⟨w.heap.size, 1, none⟩ = some (.int .i64 0) := by rw [hb1.cell (by simp)]; exact cell_new _ _ _ _ _ rfl
  have y2 : w1.cell? ⟨w.heap.size, 2, none⟩ = some (.bool false) := by rw [hb1.cell (by simp)]; exact cell_new _ _ _ _ _ rfl
  have y3 : w1.cell? ⟨w.heap.size, 3, none⟩ = some (.bool false) := by rw [hb1.cell (by simp)]; exact cell_new _ _ _ _ _ rfl
  have y4 : w1.cell? ⟨w.heap.size, 4, none⟩ = some (.pointer none) := by rw [hb1.cell (by simp)]; exact cell_new _ _ _ _ _ rfl
  have y5 : w1.cell? ⟨w.heap.size, 5, none⟩ = some (.int .i64 0) := by rw [hb1.cell (by simp)]; exact cell_new _ _ _ _ _ rfl
  have y6 : w1.cell? ⟨w.heap.size, 6, none⟩ = some (.int .i64 0) := by rw [hb1.cell (by simp)]; exact cell_new _ _ _ _ _ rfl
  have y7 : w1.cell? ⟨w.heap.size, 7, none⟩ = some (.slice none 0 0) := by rw [hb1.cell (by simp)]; exact cell_new _ _ _ _ _ rfl
  have y8 : w1.cell? ⟨w.heap.size, 8, none⟩ = some (.pointer none) := by rw [hb1.cell (by simp)]; exact cell_new _ _ _ _ _ rfl
  clear hb1
  go_wp2_with fail
  have hbv := HB1.out
  refine bodyPost_ret (v := .agg #[.int .i64 1, .int .i64 8, .bool false, .bool true, .pointer none, .int .i64 0, .int .i64 0, .slice none 0 0, .pointer none]) ?_ rfl ⟨rfl, ?_⟩
  · simp [results, Try.results20, go_sem, y0, y1, y2, y3, y4, y5, y6, y7, y8, hs1, hs2]
  · ((repeat (first | (with_reducible exact hbv) | (with_reducible apply Below.setCell) | (with_reducible apply Below.alloc) | (with_reducible apply Below.drew))) <;> first | omega | (simp <;> omega))
theorem typ_any (n : Int) (h0 : 0 ≤ n) (h1 : n ≤ 15) : ∃ (sz : Nat) (sg sc : Bool), Sz sz ∧ ∀ w, Calls Try.prog 20 #[.int .i64 n] w fun e w' => e = .returned (.agg #[.int .i64 1, .int .i64 sz, .bool sg, .bool sc, .pointer none, .int .i64 0, .int .i64 0, .slice none 0 0, .pointer none]) ∧ Below w.heap.size w w' := by
  rcases (show n = 0 ∨ n = 1 ∨ n = 2 ∨ n = 3 ∨ n = 4 ∨ n = 5 ∨ n = 6 ∨ n = 7 ∨ n = 8 ∨ n = 9 ∨ n = 10 ∨ n = 11 ∨ n = 12 ∨ n = 13 ∨ n = 14 ∨ n = 15 by omega) with rfl | rfl | rfl | rfl | rfl | rfl | rfl | rfl | rfl | rfl | rfl | rfl | rfl | rfl | rfl | rfl
  · exact ⟨1, true, false, Or.inl rfl, typ_0⟩
  · exact ⟨2, true, false, Or.inr (Or.inl rfl), typ_1⟩
  · exact ⟨4, true, false, Or.inr (Or.inr (Or.inl rfl)), typ_2⟩
  · exact ⟨8, true, false, sz8, typ_3⟩
  · exact ⟨1, false, false, Or.inl rfl, typ_4⟩
  · exact ⟨2, false, false, Or.inr (Or.inl rfl), typ_5⟩
  · exact ⟨4, false, false, Or.inr (Or.inr (Or.inl rfl)), typ_6⟩
  · exact ⟨8, false, false, sz8, typ_7⟩
  · exact ⟨1, true, true, Or.inl rfl, typ_8⟩
  · exact ⟨2, true, true, Or.inr (Or.inl rfl), typ_9⟩
  · exact ⟨4, true, true, Or.inr (Or.inr (Or.inl rfl)), typ_10⟩
  · exact ⟨8, true, true, sz8, typ_11⟩
  · exact ⟨1, false, true, Or.inl rfl, typ_12⟩
  · exact ⟨2, false, true, Or.inr (Or.inl rfl), typ_13⟩
  · exact ⟨4, false, true, Or.inr (Or.inr (Or.inl rfl)), typ_14⟩
  · exact ⟨8, false, true, sz8, typ_15⟩
end Go.Proofs.Ytdkhanjfncbfnaa
