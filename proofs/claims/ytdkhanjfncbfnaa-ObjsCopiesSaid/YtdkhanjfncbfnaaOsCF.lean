import Derived.Test.YtdkhanjfncbfnaaOsCE
import Derived.Test.YtdkhanjfncbfnaaOsR
namespace Go.Proofs.Ytdkhanjfncbfnaa
open Go Go.RowKit
set_option linter.unusedVariables false
set_option linter.unusedSimpArgs false

set_option maxHeartbeats 1000000 in
theorem cloneO (w : World) :
    Calls Try.prog 58 #[.slice none 0 0] w fun e w' => e = .returned (.slice none 0 0) ∧ w = w' := by
  have hn := Lib.run_eql_slice_nil (P := Try.prog) w 55 57 none 0 0 0 0 Try.underlying55
  go_enter Try.func58, Try.ntmps58
  go_wp2
  go_ret
  exact ⟨rfl, rfl⟩

set_option maxHeartbeats 1000000 in
theorem ownO (n : Int) (sg : Bool) (w : World) :
    Calls Try.prog 49 #[.agg #[.int .i64 1, .int .i64 n, .bool sg, .bool false, .pointer none, .int .i64 0, .int .i64 0, .slice none 0 0, .pointer none]] w fun e w' => e = .returned (.agg #[.int .i64 1, .int .i64 n, .bool sg, .bool false, .pointer none, .int .i64 0, .int .i64 0, .slice none 0 0, .pointer none]) ∧ Below w.heap.size w w' := by
  go_enter Try.func49, Try.ntmps49
  go_wp2_with (go_at_call 58; refine (cloneO _).mono ?_; rintro e w' ⟨rfl, rfl⟩)
  refine wp_loop_rounds 1 ?_; rw [rounds_succ]
  go_wp2
  refine bodyPost_ret (v := .agg #[.int .i64 1, .int .i64 n, .bool sg, .bool false, .pointer none, .int .i64 0, .int .i64 0, .slice none 0 0, .pointer none]) ?_ rfl ⟨rfl, ?_⟩
  · simp [results, Try.results49, go_sem]
  · ((repeat (first | (with_reducible exact Below.refl _ _) | (with_reducible apply Below.setCell) | (with_reducible apply Below.alloc))) <;> first | omega | (simp <;> omega))

set_option maxHeartbeats 1000000 in
theorem ptrToO (n : Int) (sg : Bool) (w : World) :
    Calls Try.prog 28 #[.agg #[.int .i64 1, .int .i64 n, .bool sg, .bool false, .pointer none, .int .i64 0, .int .i64 0, .slice none 0 0, .pointer none]] w fun e w' => ∃ el, e = .returned (.agg #[.int .i64 2, .int .i64 8, .bool false, .bool false, .pointer el, .int .i64 0, .int .i64 0, .slice none 0 0, .pointer none]) ∧ Below w.heap.size w w' := by
  have HOW := Lib.hid (ownO n sg)
  go_enter Try.func28, Try.ntmps28
  go_wp2_with fail
  have hb0 : Below w.heap.size w ((w.alloc (.cells #[.int .i64 1, .int .i64 n, .bool sg, .bool false, .pointer none, .int .i64 0, .int .i64 0, .slice none 0 0, .pointer none] 57)).alloc (.cells #[.int .i64 0, .int .i64 0, .bool false, .bool false, .pointer none, .int .i64 0, .int .i64 0, .slice none 0 0, .pointer none] 57)) := ((Below.refl _ _).alloc (Nat.le_refl _) _).alloc (by simp) _
  (with_reducible refine (HOW.out _).mono ?_)
  rintro e w1 ⟨rfl, hb1⟩
  have HB1 : Hid (Below w.heap.size w w1) := Lib.hid (hb0.trans (hb1.mono hb0.size))
  have hz : w.heap.size + 2 ≤ w1.heap.size := by have := hb1.size; simp at this; omega
  have r0 : w1.cell? ⟨w.heap.size + 1, 0, none⟩ = some (.int .i64 0) := by rw [hb1.cell (by simp)]; exact cell_new _ _ _ _ _ (by simp)
  have g0 : w1.frozen? ⟨w.heap.size + 1, 0, none⟩ = false := by rw [hb1.frozen (by simp)]; exact frozen_new _ _ _ _ _ (by simp)
  have r1 : w1.cell? ⟨w.heap.size + 1, 1, none⟩ = some (.int .i64 0) := by rw [hb1.cell (by simp)]; exact cell_new _ _ _ _ _ (by simp)
  have g1 : w1.frozen? ⟨w.heap.size + 1, 1, none⟩ = false := by rw [hb1.frozen (by simp)]; exact frozen_new _ _ _ _ _ (by simp)
  have r2 : w1.cell? ⟨w.heap.size + 1, 2, none⟩ = some (.bool false) := by rw [hb1.cell (by simp)]; exact cell_new _ _ _ _ _ (by simp)
  have g2 : w1.frozen? ⟨w.heap.size + 1, 2, none⟩ = false := by rw [hb1.frozen (by simp)]; exact frozen_new _ _ _ _ _ (by simp)
  have r3 : w1.cell? ⟨w.heap.size + 1, 3, none⟩ = some (.bool false) := by rw [hb1.cell (by simp)]; exact cell_new _ _ _ _ _ (by simp)
  have g3 : w1.frozen? ⟨w.heap.size + 1, 3, none⟩ = false := by rw [hb1.frozen (by simp)]; exact frozen_new _ _ _ _ _ (by simp)
  have r4 : w1.cell? ⟨w.heap.size + 1, 4, none⟩ = some (.pointer none) := by rw [hb1.cell (by simp)]; exact cell_new _ _ _ _ _ (by simp)
  have g4 : w1.frozen? ⟨w.heap.size + 1, 4, none⟩ = false := by rw [hb1.frozen (by simp)]; exact frozen_new _ _ _ _ _ (by simp)
  have r5 : w1.cell? ⟨w.heap.size + 1, 5, none⟩ = some (.int .i64 0) := by rw [hb1.cell (by simp)]; exact cell_new _ _ _ _ _ (by simp)
  have g5 : w1.frozen? ⟨w.heap.size + 1, 5, none⟩ = false := by rw [hb1.frozen (by simp)]; exact frozen_new _ _ _ _ _ (by simp)
  have r6 : w1.cell? ⟨w.heap.size + 1, 6, none⟩ = some (.int .i64 0) := by rw [hb1.cell (by simp)]; exact cell_new _ _ _ _ _ (by simp)
  have g6 : w1.frozen? ⟨w.heap.size + 1, 6, none⟩ = false := by rw [hb1.frozen (by simp)]; exact frozen_new _ _ _ _ _ (by simp)
  have r7 : w1.cell? ⟨w.heap.size + 1, 7, none⟩ = some (.slice none 0 0) := by rw [hb1.cell (by simp)]; exact cell_new _ _ _ _ _ (by simp)
  have g7 : w1.frozen? ⟨w.heap.size + 1, 7, none⟩ = false := by rw [hb1.frozen (by simp)]; exact frozen_new _ _ _ _ _ (by simp)
  have r8 : w1.cell? ⟨w.heap.size + 1, 8, none⟩ = some (.pointer none) := by rw [hb1.cell (by simp)]; exact cell_new _ _ _ _ _ (by simp)
  have g8 : w1.frozen? ⟨w.heap.size + 1, 8, none⟩ = false := by rw [hb1.frozen (by simp)]; exact frozen_new _ _ _ _ _ (by simp)
  have hne : w.heap.size + 1 ≠ w1.heap.size := by omega
  have hlt : w.heap.size + 1 < w1.heap.size := by omega
  clear hb0 hb1
  go_wp2_with fail
  have hbv := HB1.out
  refine bodyPost_ret (v := .agg #[.int .i64 2, .int .i64 8, .bool false, .bool false, .pointer (some ⟨w1.heap.size, 0, none⟩), .int .i64 0, .int .i64 0, .slice none 0 0, .pointer none]) ?_ rfl ⟨_, rfl, ?_⟩
  · simp [results, Try.results28, go_sem, r0, r1, r2, r3, r4, r5, r6, r7, r8, hne, hlt]
  · ((repeat (first | (with_reducible exact hbv) | (with_reducible apply Below.setCell) | (with_reducible apply Below.alloc) | (with_reducible apply Below.drew))) <;> first | omega | (simp <;> omega))
end Go.Proofs.Ytdkhanjfncbfnaa
